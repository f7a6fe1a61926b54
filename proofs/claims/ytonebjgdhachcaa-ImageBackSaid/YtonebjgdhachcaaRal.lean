/- What the document's Zbz Zcw into a file, all of it: tenancyref7.All. -/
import Derived.Test.YtonebjgdhachcaaRpw
namespace Go.Proofs.Ytonebjgdhachcaa.ral
open Go Go.RowKit eng SX Fact fil fileFronts
set_option linter.unusedVariables false
set_option linter.unusedSimpArgs false
set_option maxRecDepth 1000000

noncomputable def flR:=flat (Zar Try.prog 57)
noncomputable def lpR:=flat (Zak (nth flR 2))
def tabR (f:FuncId):Option FnE:=cond (Nat.beq f 101) (some (EPut 2)) none
def shR:Shape:=⟨[(0,.leaf),(1,.leaf)],[],[none,some false],19,57⟩
def shRl:Shape:=⟨[(0,.leaf),(1,.leaf),(5,.leaf)],[],[none,some false,none],19,57⟩
def shRR:Shape:=⟨[(4,.leaf)],[],[none],19,57⟩
theorem preR:segTo Try.prog (orcFn tabR) 10000 (flR.take 2) shR [] shRl []=some (.normal,[.ok (.var 0),.ok (.con (.int .i64 0))],[.var 0,.var 1,.con (.int .i64 0)]):=by kernel_rfl
theorem onR:segTo Try.prog (orcFn tabR) 10000 lpR shRl [1] shRl []=some (.normal,[.ok (.len (.var 1)),.ok (.bin .lss (.var 2) (.len (.var 1))),.is (.bin .lss (.var 2) (.len (.var 1))) (.bool true),.idx (.var 1) (.var 2) 2 2,.idx (.var 1) (.var 2) 2 2,.ok (.cell (.var 1) (.var 2) 2 0),.ok (.cell (.var 1) (.var 2) 2 1),.fn 101 (EPut 2) [.var 0,.cell (.var 1) (.var 2) 2 0,.cell (.var 1) (.var 2) 2 1],.ok (.fn 2 [.var 0,.cell (.var 1) (.var 2) 2 0,.cell (.var 1) (.var 2) 2 1] 0),.ok (.bin .add (.var 2) (.con (.int .i64 1))),.ok (.fn 2 [.var 0,.cell (.var 1) (.var 2) 2 0,.cell (.var 1) (.var 2) 2 1] 0),.ok (.bin .add (.var 2) (.con (.int .i64 1)))],[.fn 2 [.var 0,.cell (.var 1) (.var 2) 2 0,.cell (.var 1) (.var 2) 2 1] 0,.var 1,.bin .add (.var 2) (.con (.int .i64 1))]):=by kernel_rfl
theorem exR:segTo Try.prog (orcFn tabR) 10000 lpR shRl [0] shRl []=some (.exit 0,[.ok (.len (.var 1)),.ok (.bin .lss (.var 2) (.len (.var 1))),.is (.bin .lss (.var 2) (.len (.var 1))) (.bool false),.ok (.var 0),.ok (.var 2)],[.var 0,.var 1,.var 2]):=by kernel_rfl
theorem postR:segTo Try.prog (orcFn tabR) 10000 (flR.drop 3) shRl [] shRR []=some (.ret,[.ok (.var 0)],[.var 0]):=by kernel_rfl

theorem cutR:flR=flR.take 2++.block (Zan (nth flR 2)) (.loop (Zak (nth flR 2))) :: flR.drop 3:=by kernel_rfl
noncomputable def FR:Fns:=fun k=>match k with | 2=>spec RPut | _=>fun _=>none
theorem t2R:ToldF 101 (EPut 2) (FR 2):=rpw.told 2
theorem FR2 {b:ByteArray} {o:Int} {s:ByteArray} (h1:b.size<=1000) (h2:-9223372036854775808<=o) (h3:o<=9223372036854775807) (h4:s.size<=1000000):FR 2 [pS b,pI o,pS s]=some [pS (bs (putW b.data.toList (o,s)))]:=Zao fPut ⟨b,o,s,h1,h2,h3,h4,rfl,rfl⟩
abbrev stR (ws:List (Int × ByteArray)) (i:Nat) (l:List UInt8):List PV:=[pS (bs l),pRow encW ws,pI (i:Int)]
set_option maxHeartbeats 2000000 in
theorem told (k:Nat):ToldF 57 (EAll k) (spec RAll):=by
 refine Zcq FR _ (Zar Try.prog 57) Try.func57 (by kernel_rfl) shR (by kernel_rfl) ?_ ?_
 ·intro ps qs h i hi
  obtain ⟨b,ws,_,_,_,rfl,rfl⟩:=Zai h
  simp [shR] at hi
  match i,hi with
  | 0,hi=>exact ⟨_,rfl,rfl⟩
  | 1,hi=>simp at hi
  | i+2,hi=>simp at hi
 ·intro C ps qs hF h a w hsh
  obtain ⟨b,ws,hb,hw,hwf,rfl,rfl⟩:=Zai h
  show wpL Try.prog flR _ a w
  rw [cutR]
  have hbb:bs b.data.toList=b:=by simp [bs]
  refine Zag Zac Zad (Zaj _) preR hsh ?_ ?_
  ·simp only [fmC,fmN]
   simp [Base.ev,SX.ev,evs,Value.oneCell']
  ·intro qs a1 w1 hq h1
   refine ⟨fun _=>?_,fun h=>absurd rfl h⟩
   simp [evs,SX.ev] at hq
   subst hq
   refine Zay (fun n a w=>∃ i,i<=ws.length/\n=ws.length - i/\Zah C shRl (stR ws i (allW b.data.toList (ws.take i))) a w) ?_ (n:=ws.length) ⟨0,by omega,by omega,by simp only [List.take_zero,allW,List.foldl_nil,hbb];exact h1⟩
   rintro n a w ⟨i,hi,rfl,hin⟩
   show wpL Try.prog lpR _ a w
   rw [<- List.append_nil lpR]
   have hL:(allW b.data.toList (ws.take i)).length<=1000:=by
    have:=Zjw (ws.take i) b.data.toList
    have hb':b.data.toList.length=b.size:=by simp
    omega
   by_cases hlt:i < ws.length
   ·have hstep:allW b.data.toList (ws.take (i+1))=putW (allW b.data.toList (ws.take i)) ws[i]:=by
     rw [List.take_add_one,List.getElem?_eq_getElem hlt]
     simp only [allW,Option.toList_some,List.foldl_append,List.foldl_cons,List.foldl_nil]
    have k0:Zbh (pRow encW ws) (pI (i:Int)) 2 0=some (pI ws[i].1):=by rw [cellW ws i hlt 0 (by omega)];rfl
    have k1:Zbh (pRow encW ws) (pI (i:Int)) 2 1=some (pS ws[i].2):=by rw [cellW ws i hlt 1 (by omega)];rfl
    obtain ⟨g1,g2,g3⟩:=hwf _ (List.getElem_mem hlt)
    generalize allW b.data.toList (ws.take i)=l at *
    have ix:(Fact.idx (var 1) (var 2) 2 2).holds (C.with (stR ws i l)):=Zg7 encW ws i 2 2 rfl hlt (by decide)
    have w5:IntKind.i64.wrap ((i:Int)+1)=(i:Int)+1:=wrapI _ (by omega) (by omega)
    have e2:=FR2 (b:=bs l) (s:=ws[i].2) (by rw [Zo6];exact hL) g1 g2 g3
    rw [bs_list,show (ws[i].1,ws[i].2)=ws[i] from rfl,<- hstep] at e2
    have hlt':(i:Int) < (ws.length:Int):=by omega
    refine Zag Zac Zad (Zaj _) onR hin ?_ ?_
    ·simp only [fmC,fmN]
     simp [-Zae,Base.ev,SX.ev,evs,hF,Zaf,binPV,Value.oneCell',hlt,k0,k1,ix,w5,e2,t2R]
    ·intro qs a1 w1 hq h1
     refine ⟨fun _=>.inl ⟨rfl,ws.length - (i+1),by omega,i+1,by omega,rfl,?_⟩,fun h=>absurd rfl h⟩
     simp [evs,SX.ev,hF,binPV,k0,k1,w5,e2] at hq
     subst hq
     exact h1
   ·have hie:i=ws.length:=by omega
    refine Zag Zac Zad (Zaj _) exR hin ?_ ?_
    ·simp only [fmC,fmN]
     simp [Base.ev,SX.ev,evs,Zaf,binPV,Value.oneCell']
     all_goals omega
    ·intro qs a1 w1 hq h1
     refine ⟨fun h=>(by cases h),fun _=>.inr (.inl ⟨by rw [show Zan (nth flR 2)=0 by kernel_rfl];rfl,?_⟩)⟩
     simp [evs,SX.ev] at hq
     subst hq
     rw [<- List.append_nil (flR.drop 3)]
     refine Zag Zac Zad (Zaj _) postR h1 ?_ ?_
     ·simp only [fmC,fmN]
      simp [Base.ev,SX.ev,evs,Value.oneCell']
     ·intro qs a2 w2 hq h2
      refine ⟨fun h=>(by cases h),fun _=>⟨.inr rfl,shRR,qs,[SX.var 0],h2,by kernel_rfl,?_⟩⟩
      simp [evs,SX.ev] at hq ⊢
      subst hq
      rw [hie,List.take_length]
      simp [bs]
end Go.Proofs.Ytonebjgdhachcaa.ral
