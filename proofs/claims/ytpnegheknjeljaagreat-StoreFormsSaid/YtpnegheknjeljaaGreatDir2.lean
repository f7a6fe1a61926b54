/- Names of files: who has one, where there is room. -/
import Derived.Test.YtpnegheknjeljaaGreatDir
namespace Go.Proofs.YtpnegheknjeljaaGreat.dirs
open Go Go.RowKit eng SX Fact fil fileFronts
set_option linter.unusedVariables false
set_option linter.unusedSimpArgs false
set_option maxRecDepth 1000000

def tabX (f:FuncId):Option (FnE × List Value):=cond (Nat.beq f 186) (some (Zon 2,[pvF])) (cond (Nat.beq f 185) (some (EMust 3,[pvB1,pvB2])) none)
@[simp] def Zf3:Fact:=Fact.fx 185 (EMust 3) ([pvB1,pvB2]) [.var 1]
theorem f0:runTo Tryz.prog (orcX tabX) 10000 177 (EFind 1) [.row,.num] [0,0]=some ([.ok (.var 1),Zf3,.is (.fn 3 [.var 1] 0) (.int .i64 0),Fact.fx 186 (Zon 2) ([pvF]) [.var 0,.var 1],.is (.fn 2 [.var 0,.var 1] 0) (.int .i64 0),.ok (.fn 2 [.var 0,.var 1] 1)],[.fn 2 [.var 0,.var 1] 1,.con (.bool true)]):=by kernel_rfl
theorem f1:runTo Tryz.prog (orcX tabX) 10000 177 (EFind 1) [.row,.num] [0,1]=some ([.ok (.var 1),Zf3,.is (.fn 3 [.var 1] 0) (.int .i64 0),Fact.fx 186 (Zon 2) ([pvF]) [.var 0,.var 1],.is (.fn 2 [.var 0,.var 1] 0) (.int .i64 1)],[.con (.int .i64 0),.con (.bool false)]):=by kernel_rfl
theorem f2:runTo Tryz.prog (orcX tabX) 10000 177 (EFind 1) [.row,.num] [1]=some ([.ok (.var 1),Zf3,.is (.fn 3 [.var 1] 0) (.int .i64 1)],[.con (.int .i64 0),.con (.bool false)]):=by kernel_rfl
theorem f3:runTo Tryz.prog (orcX tabX) 10000 177 (EFind 1) [.row,.num] [2]=some ([.ok (.var 1),Zf3,.is (.fn 3 [.var 1] 0) (.int .i64 2)],[.con (.int .i64 0),.con (.bool false)]):=by kernel_rfl
@[simp] theorem holds_fx (B:Base) (f:FuncId) (E:FnE) (pans:List Value) (es:List SX):(Fact.fx f E pans es).holds B ↔ ToldX f E pans (B.F E.k)/\∃ ps qs,evs B.s B.F es=some ps/\B.F E.k ps=some qs:=Iff.rfl
@[simp] theorem kFirst (k:Nat):(Zon k).k=k:=rfl
@[simp] theorem kMust (k:Nat):(EMust k).k=k:=rfl
@[simp] theorem kName (k:Nat):(EName k).k=k:=rfl
@[simp] theorem kFind (k:Nat):(EFind k).k=k:=rfl
@[simp] theorem kRoom (k:Nat):(ERoom k).k=k:=rfl
def e0:ByteArray:=⟨⟨[]⟩⟩
def findN (l:List FileM) (s:ByteArray):Option Nat:=if okN s then l.findIdx? (isN s) else none
def ansQ:Option Nat->List PV | some i=>[pI (i+1:Nat),pB true] | none=>[pI 0,pB false]
def RFind (ps qs:List PV):Prop:=∃ (l:List FileM) (s:ByteArray),Zpk l/\s.size<=9223372036854775807/\ps=[pRow encF l,pS s]/\qs=ansQ (findN l s)
theorem fFind:∀ ps q1 q2,RFind ps q1->RFind ps q2->q1=q2:=by
 rintro ps q1 q2 ⟨l,s,_,_,rfl,rfl⟩ ⟨l',s',_,_,h,rfl⟩
 simp only [List.cons.injEq,PV.v.injEq,Value.string.injEq,and_true] at h
 obtain ⟨h,rfl⟩:=h
 rw [fil.pRow_inj Zln h]
def RRoom (ps qs:List PV):Prop:=∃ l:List FileM,Zpk l/\ps=[pRow encF l]/\qs=ansQ (l.findIdx? (isN e0))
noncomputable def FD:Fns:=fun k=>match k with | 1=>spec RName | 2=>spec Zq9 | 3=>spec RMust | _=>fun _=>none
theorem x2:ToldX 186 (Zon 2) [pvF] (FD 2):=toldFirst 2
theorem x3:ToldX 185 (EMust 3) [pvB1,pvB2] (FD 3):=toldMust 3
theorem n1:ToldF 42 (EName 1) (FD 1):=toldName 1
theorem FD1 {s:ByteArray} (h:s.size<=9223372036854775807):FD 1 [pS s]=some [pB (okN s)]:=Zap fName ⟨s,h,rfl,rfl⟩
theorem FD2 {l:List FileM} {s:ByteArray} (h:Zpk l):FD 2 [pRow encF l,pS s]=some (Zkc l s):=Zap fFirst ⟨l,s,h,rfl,rfl⟩
theorem FD3 {s:ByteArray} (h:s.size<=9223372036854775807):FD 3 [pS s]=some (mustQ s):=Zap fMust ⟨s,h,rfl,rfl⟩
theorem must_ok {s:ByteArray} (h:okN s=true):mustQ s=[pI 0]:=by
 simp only [okN,Bool.and_eq_true,decide_eq_true_eq] at h
 rw [mustQ,if_pos h.1,if_pos h.2]
theorem must_no {s:ByteArray} (h:okN s=false):mustQ s=[pI 1] \/ mustQ s=[pI 2]:=by
 unfold mustQ
 split
 ·rename_i h1
  simp only [okN,h1.1,h1.2,decide_true,Bool.true_and] at h
  rw [h]
  exact .inr rfl
 ·exact .inl rfl
theorem toldFind (k:Nat):ToldF 177 (EFind k) (spec RFind):=by
 refine Zgh mixed_ok names_ok FD [.row,.num] ?_
 intro ps qs h _
 obtain ⟨l,s,hl,hs,rfl,rfl⟩:=Zah h
 have g2:=FD2 (s:=s) hl
 have g3:=FD3 hs
 cases hm:okN s with
 | true =>
  rw [must_ok hm] at g3
  cases hf:l.findIdx? (isN s) with
  | some i =>
   have ha:ansQ (findN l s)=[pI (i+1:Nat),pB true]:=by simp [findN,hm,hf,ansQ]
   rw [show Zkc l s=[pI 0,pI (i+1:Nat)] by simp only [Zkc,hf]] at g2
   refine ⟨_,_,_,_,_,_,Zil tabX,f0,fun w FP=>?_,?_⟩
   ·simp [Base.ev,SX.ev,evs,Value.oneCell',g2,g3,x2,x3]
   ·rw [ha];simp [evs,SX.ev,g2]
  | none =>
   have ha:ansQ (findN l s)=[pI 0,pB false]:=by simp [findN,hm,hf,ansQ]
   rw [show Zkc l s=[pI 1] by simp only [Zkc,hf];rfl] at g2
   refine ⟨_,_,_,_,_,_,Zil tabX,f1,fun w FP=>?_,?_⟩
   ·simp [Base.ev,SX.ev,evs,Value.oneCell',g2,g3,x2,x3]
   ·rw [ha];simp [evs,SX.ev]
 | false =>
  have ha:ansQ (findN l s)=[pI 0,pB false]:=by simp [findN,hm,ansQ]
  rcases must_no hm with h2 | h2
  ·rw [h2] at g3
   refine ⟨_,_,_,_,_,_,Zil tabX,f2,fun w FP=>?_,?_⟩
   ·simp [Base.ev,SX.ev,evs,Value.oneCell',g3,x3]
   ·rw [ha];simp [evs,SX.ev]
  ·rw [h2] at g3
   refine ⟨_,_,_,_,_,_,Zil tabX,f3,fun w FP=>?_,?_⟩
   ·simp [Base.ev,SX.ev,evs,Value.oneCell',g3,x3]
   ·rw [ha];simp [evs,SX.ev]
theorem cutG:flG=flG.take 2++.block (Zbj (nth flG 2)) (.loop (Zaq (nth flG 2))) :: flG.drop 3:=by kernel_rfl
theorem cutR:flR=flR.take 2++.block (Zbj (nth flR 2)) (.loop (Zaq (nth flR 2))) :: flR.drop 3:=by kernel_rfl
set_option maxHeartbeats 1000000 in
theorem toldRefFind (k:Nat):ToldF 44 (EFind k) (spec RFind):=by
 refine Zm9 FD _ (Zat Tryz.prog 44) Tryz.func44 (by kernel_rfl) shG (by kernel_rfl) ?_ ?_
 ·intro ps qs h
  obtain ⟨l,s,_,_,rfl,rfl⟩:=Zah h
  exact Zc0 rfl
 ·intro C ps qs hF h a w hsh
  obtain ⟨l,s,hl,hs,rfl,rfl⟩:=Zah h
  have hl':l.length<=1000000:=hl
  have g1:=FD1 hs
  show wpL Tryz.prog flG _ a w
  rw [cutG]
  refine Zae names_ok mixed_ok (Zar _) preG hsh ?_ ?_
  ·simp [Base.ev,SX.ev,evs,Value.oneCell',Zad]
  ·intro qs a1 w1 hq h1
   refine ⟨fun _=>?_,fun h=>absurd rfl h⟩
   simp [evs,SX.ev,Zad] at hq
   subst hq
   have post:∀ i a w,ansQ (findN l s)=[pI 0,pB false]->Zam C shGl [pRow encF l,pS s,pI i] a w->wpL Tryz.prog (flG.drop 3) (fun e a' w'=>(e=.normal \/ e=.ret)/\∃ sh' ps' es,Zam C sh' ps' a' w'/\resTo Tryz.prog Tryz.f44 sh' (EFind k)=some es/\evs (fun i=>ps'[i]?) FD es=some (ansQ (findN l s))) a w:=by
    intro i a w ha hin
    rw [<- List.append_nil (flG.drop 3)]
    refine Zae names_ok mixed_ok (Zar _) postG hin ?_ ?_
    ·simp [Base.ev,SX.ev,evs,Value.oneCell',hF]
    ·intro qs a2 w2 hq h2
     refine ⟨nofun,fun _=>⟨.inr rfl,shGR,_,[SX.var 0,SX.var 1],h2,by kernel_rfl,?_⟩⟩
     simp [evs,SX.ev] at hq
     subst hq
     rw [ha];rfl
   refine Zds (fun n a w=>∃ i,i<=l.length/\n=l.length - i/\(∀ j (hj:j < l.length),j < i->isN s l[j]=false)/\(0 < i->okN s=true)/\Zam C shGl [pRow encF l,pS s,pI (i:Int)] a w) ?_ (n:=l.length) ⟨0,by omega,by omega,fun j _ hj=>absurd hj (by omega),fun h=>absurd h (by omega),h1⟩
   rintro n a w ⟨i,hi,rfl,hb,hpo,hin⟩
   show wpL Tryz.prog lpG _ a w
   rw [<- List.append_nil lpG]
   by_cases hlt:i < l.length
   ·obtain ⟨c0',c1',c2'⟩:=cellF l i hlt
    have ix:(Fact.idx (var 0) (var 2) 3 3).holds (C.with [pRow encF l,pS s,pI (i:Int)]):=Znq encF l i 3 3 rfl hlt (by decide)
    have ix1:(Fact.idx (var 0) (var 2) 3 1).holds (C.with [pRow encF l,pS s,pI (i:Int)]):=Znq encF l i 3 1 rfl hlt (by decide)
    have v3:IntKind.i64.wrap ((i:Int)+1)=(i:Int)+1:=wrapI _ (by omega) (by omega)
    cases hm:okN s with
    | false =>
     have ha:ansQ (findN l s)=[pI 0,pB false]:=by simp [findN,hm,ansQ]
     rw [hm] at g1
     refine Zae names_ok mixed_ok (Zar _) exG2 hin ?_ ?_
     ·simp [Base.ev,SX.ev,evs,Value.oneCell',hF,Zad,binPV,g1,n1,hlt]
     ·intro qs a1 w1 hq h1
      refine ⟨nofun,fun _=>.inr (.inl ⟨by rw [show Zbj (nth flG 2)=0 by kernel_rfl];rfl,?_⟩)⟩
      simp [evs,SX.ev] at hq
      subst hq
      exact post _ _ _ ha h1
    | true =>
     rw [hm] at g1
     cases hp:isN s l[i] with
     | true =>
      have hp':(l[i].1.toList == s.toList)=true:=hp
      have ha:ansQ (findN l s)=[pI (i+1:Nat),pB true]:=by simp only [findN,hm,if_true,Zqj hlt hp hb,ansQ]
      refine Zae names_ok mixed_ok (Zar _) isG hin ?_ ?_
      ·simp [-Zac,Base.ev,SX.ev,evs,Value.oneCell',hF,Zad,binPV,c0',ix,ix1,v3,hlt,hp',g1,n1]
      ·intro qs a1 w1 hq h1
       refine ⟨nofun,fun _=>.inr (.inr ⟨rfl,.inr rfl,shGR,qs,[SX.var 0,SX.var 1],h1,by kernel_rfl,?_⟩)⟩
       simp [evs,SX.ev,binPV,v3] at hq ⊢
       subst hq
       rw [ha];simp
     | false =>
      have hp':(l[i].1.toList == s.toList)=false:=hp
      refine Zae names_ok mixed_ok (Zar _) onG hin ?_ ?_
      ·simp [-Zac,Base.ev,SX.ev,evs,Value.oneCell',hF,Zad,binPV,c0',ix,ix1,v3,hlt,hp',g1,n1]
      ·intro qs a1 w1 hq h1
       refine ⟨fun _=>.inl ⟨rfl,l.length - (i+1),by omega,i+1,by omega,rfl,fun j hj hji=>?_,fun _=>rfl,?_⟩,fun h=>absurd rfl h⟩
       ·by_cases hje:j=i
        ·subst hje;exact hp
        ·exact hb j hj (by omega)
       ·simp [evs,SX.ev,binPV,v3] at hq
        subst hq
        exact h1
   ·have hie:i=l.length:=by omega
    subst hie
    have ha:ansQ (findN l s)=[pI 0,pB false]:=by
     have:=Zqi (fun j hj=>hb j hj hj)
     unfold findN
     split <;> simp [this,ansQ]
    refine Zae names_ok mixed_ok (Zar _) exG hin ?_ ?_
    ·simp [Base.ev,SX.ev,evs,Value.oneCell',Zad,binPV]
    ·intro qs a1 w1 hq h1
     refine ⟨nofun,fun _=>.inr (.inl ⟨by rw [show Zbj (nth flG 2)=0 by kernel_rfl];rfl,?_⟩)⟩
     simp [evs,SX.ev] at hq
     subst hq
     exact post _ _ _ ha h1
set_option maxHeartbeats 1000000 in
theorem toldRefRoom (k:Nat):ToldF 45 (ERoom k) (spec RRoom):=by
 refine Zm9 FD _ (Zat Tryz.prog 45) Tryz.func45 (by kernel_rfl) shR (by kernel_rfl) ?_ ?_
 ·intro ps qs h i hi
  simp [shR] at hi
  match i,hi with
  | 0,hi=>simp at hi
  | i+1,hi=>simp at hi
 ·intro C ps qs hF h a w hsh
  obtain ⟨l,hl,rfl,rfl⟩:=Zah h
  have hl':l.length<=1000000:=hl
  show wpL Tryz.prog flR _ a w
  rw [cutR]
  refine Zae names_ok mixed_ok fil.noOrc_ok preR hsh ?_ ?_
  ·simp [Base.ev,SX.ev,evs,Value.oneCell',Zad]
  ·intro qs a1 w1 hq h1
   refine ⟨fun _=>?_,fun h=>absurd rfl h⟩
   simp [evs,SX.ev,Zad] at hq
   subst hq
   refine Zds (fun n a w=>∃ i,i<=l.length/\n=l.length - i/\(∀ j (hj:j < l.length),j < i->isN e0 l[j]=false)/\Zam C shRl [pRow encF l,pI (i:Int)] a w) ?_ (n:=l.length) ⟨0,by omega,by omega,fun j _ hj=>absurd hj (by omega),h1⟩
   rintro n a w ⟨i,hi,rfl,hb,hin⟩
   show wpL Tryz.prog lpR _ a w
   rw [<- List.append_nil lpR]
   by_cases hlt:i < l.length
   ·obtain ⟨c0',c1',c2'⟩:=cellF l i hlt
    have ix:(Fact.idx (var 0) (var 1) 3 3).holds (C.with [pRow encF l,pI (i:Int)]):=Znq encF l i 3 3 rfl hlt (by decide)
    have ix1:(Fact.idx (var 0) (var 1) 3 1).holds (C.with [pRow encF l,pI (i:Int)]):=Znq encF l i 3 1 rfl hlt (by decide)
    have v3:IntKind.i64.wrap ((i:Int)+1)=(i:Int)+1:=wrapI _ (by omega) (by omega)
    cases hp:isN e0 l[i] with
    | true =>
     have hp':l[i].1.toList=[]:=by simpa [isN,e0] using hp
     have ha:ansQ (l.findIdx? (isN e0))=[pI (i+1:Nat),pB true]:=by simp only [Zqj hlt hp hb,ansQ]
     refine Zae names_ok mixed_ok fil.noOrc_ok isR hin ?_ ?_
     ·simp [-Zac,Base.ev,SX.ev,evs,Value.oneCell',hF,Zad,binPV,c0',ix,ix1,v3,hlt,hp']
     ·intro qs a1 w1 hq h1
      refine ⟨nofun,fun _=>.inr (.inr ⟨rfl,.inr rfl,shRR,qs,[SX.var 0,SX.var 1],h1,by kernel_rfl,?_⟩)⟩
      simp [evs,SX.ev,binPV,v3] at hq ⊢
      subst hq
      rw [ha];simp
    | false =>
     have hp':¬ l[i].1.toList=[]:=by simpa [isN,e0] using hp
     refine Zae names_ok mixed_ok fil.noOrc_ok onR hin ?_ ?_
     ·simp [-Zac,Base.ev,SX.ev,evs,Value.oneCell',hF,Zad,binPV,c0',ix,ix1,v3,hlt,hp']
     ·intro qs a1 w1 hq h1
      refine ⟨fun _=>.inl ⟨rfl,l.length - (i+1),by omega,i+1,by omega,rfl,fun j hj hji=>?_,?_⟩,fun h=>absurd rfl h⟩
      ·by_cases hje:j=i
       ·subst hje;exact hp
       ·exact hb j hj (by omega)
      ·simp [evs,SX.ev,binPV,v3] at hq
       subst hq
       exact h1
   ·have hie:i=l.length:=by omega
    subst hie
    have ha:ansQ (l.findIdx? (isN e0))=[pI 0,pB false]:=by rw [Zqi (fun j hj=>hb j hj hj)];rfl
    refine Zae names_ok mixed_ok fil.noOrc_ok exR hin ?_ ?_
    ·simp [Base.ev,SX.ev,evs,Value.oneCell',Zad,binPV]
    ·intro qs a1 w1 hq h1
     refine ⟨nofun,fun _=>.inr (.inl ⟨by rw [show Zbj (nth flR 2)=0 by kernel_rfl];rfl,?_⟩)⟩
     simp [evs,SX.ev] at hq
     subst hq
     rw [<- List.append_nil (flR.drop 3)]
     refine Zae names_ok mixed_ok fil.noOrc_ok postR h1 ?_ ?_
     ·simp [Base.ev,SX.ev,evs,Value.oneCell',hF]
     ·intro qs a2 w2 hq h2
      refine ⟨nofun,fun _=>⟨.inr rfl,shRR,_,[SX.var 0,SX.var 1],h2,by kernel_rfl,?_⟩⟩
      simp [evs,SX.ev] at hq
      subst hq
      rw [ha];rfl
end Go.Proofs.YtpnegheknjeljaaGreat.dirs
