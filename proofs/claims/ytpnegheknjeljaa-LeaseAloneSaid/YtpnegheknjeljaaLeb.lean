/- Leases: package lease's Holds, Drop and Prune, told. -/
import Derived.Test.YtpnegheknjeljaaLhp
import Derived.Test.YtpnegheknjeljaaLhd
namespace Go.Proofs.Ytpnegheknjeljaa.leb
open Go Go.RowKit eng SX Fact fil lem lea lho lhp lhd
set_option linter.unusedVariables false
set_option linter.unusedSimpArgs false
set_option maxRecDepth 1000000
def tabF (f:FuncId):Option (FnE × List Value):=cond (Nat.beq f 25) (some (EFo 4,[pvF])) none
def EDr (k:Nat):FnE:={ k:=k,ins:=[none,none,none],leaks:=[false,false,false],outs:=[none],kinds:=[.row] }
def EPr (k:Nat):FnE:={ k:=k,ins:=[none,none],leaks:=[false,false],outs:=[none],kinds:=[.row] }
@[simp] def zLeb1:List SX:=[.var 0,.var 2,.var 3]
@[simp] def zLeb2:SX:=.bin .leq (.fn 4 zLeb1 4) (.var 1)
theorem h01:runTo Try.prog (orcX tabF) 10000 10 (EHo 1) [.row,.num,.num,.num] [0,1]=some ([.ok (.var 1),.ok (.var 2),.ok (.var 3),Fact.fx 25 (EFo 4) ([pvF]) zLeb1,.is (.fn 4 zLeb1 0) (.int .i64 0),.ok (.fn 4 zLeb1 1),.ok (.fn 4 zLeb1 2),.ok (.fn 4 zLeb1 3),.ok (.fn 4 zLeb1 4),.ok zLeb2,.is zLeb2 (.bool true)],[.con (.int .i64 0)]):=by kernel_rfl
theorem h00:runTo Try.prog (orcX tabF) 10000 10 (EHo 1) [.row,.num,.num,.num] [0,0]=some ([.ok (.var 1),.ok (.var 2),.ok (.var 3),Fact.fx 25 (EFo 4) ([pvF]) zLeb1,.is (.fn 4 zLeb1 0) (.int .i64 0),.ok (.fn 4 zLeb1 1),.ok (.fn 4 zLeb1 2),.ok (.fn 4 zLeb1 3),.ok (.fn 4 zLeb1 4),.ok zLeb2,.is zLeb2 (.bool false)],[.fn 4 zLeb1 3]):=by kernel_rfl

def Za7 (l:List LeM) (now c f:Int):Int:=match l.find? (isL c f) with | some x=>if x.2.2.2<=now then 0 else x.2.2.1 | none=>0
noncomputable def FH:Fns:=fun k=>match k with | 4=>spec RFo | _=>fun _=>none
theorem FH4 {l:List LeM} {c f:Int} (h:l.length<=1000000):FH 4 [pRow encL l,pI c,pI f]=some (Zfo l c f):=Zav fFo ⟨l,c,f,h,rfl,rfl⟩
theorem x4:ToldX 25 (EFo 4) [pvF] (FH 4):=toldFo 4
def RHo1 (ps qs:List PV):Prop:=∃ (l:List LeM) (now c f:Int) (x:LeM),l.length<=1000000/\l.find? (isL c f)=some x/\ps=[pRow encL l,pI now,pI c,pI f]/\qs=[pI (if x.2.2.2<=now then 0 else x.2.2.1)]
theorem fHo1:∀ ps q1 q2,RHo1 ps q1->RHo1 ps q2->q1=q2:=by
 rintro ps q1 q2 ⟨l,n,c,f,x,_,h1,rfl,rfl⟩ ⟨l',n',c',f',x',_,h2,h,rfl⟩
 simp only [List.cons.injEq,PV.v.injEq,Value.int.injEq,true_and,and_true] at h
 obtain ⟨h,rfl,rfl,rfl⟩:=h
 obtain rfl:=fil.pRow_inj Zdb h
 rw [h1] at h2
 cases h2;rfl
@[simp] theorem holds_fxL (B:Base) (f:FuncId) (E:FnE) (pans:List Value) (es:List SX):(Fact.fx f E pans es).holds B ↔ ToldX f E pans (B.F E.k)/\∃ ps qs,evs B.s B.F es=some ps/\B.F E.k ps=some qs:=Iff.rfl
theorem toldHo1 (k:Nat):ToldF 10 (EHo k) (spec RHo1):=by
 refine Zf6 mixed_ok names_ok FH [.row,.num,.num,.num] ?_
 intro ps qs h _
 obtain ⟨l,now,c,f,⟨x0,x1,x2,x3⟩,hl,hf,rfl,rfl⟩:=Zbd h
 have g:=FH4 (c:=c) (f:=f) hl
 rw [show Zfo l c f=pI 0 :: p4 (x0,x1,x2,x3) by simp only [Zfo,hf]] at g
 by_cases d:x3<=now
 ·refine ⟨_,_,_,_,_,_,orcX_ok tabF,h01,fun w FP=>?_,?_⟩
  ·simp only [fmC,fmN]
   simp [Base.ev,SX.ev,evs,Value.oneCell',g,x4,p4,binPV,d]
  ·simp [evs,SX.ev,d]
 ·refine ⟨_,_,_,_,_,_,orcX_ok tabF,h00,fun w FP=>?_,?_⟩
  ·simp only [fmC,fmN]
   simp [Base.ev,SX.ev,evs,Value.oneCell',g,x4,p4,binPV,d]
  ·simp [evs,SX.ev,d,g,p4]
theorem Zfg {w:World} {l:Value} {xs:List LeM} (h:Reads w (pRow encL xs) l):RowE encL w l xs:=by
 simp only [pRow,Reads] at h
 obtain ⟨a,cap,rfl,h1,h2,h3⟩:=h
 refine ⟨a,cap,rfl,h1,h2,fun h0=>?_⟩
 rcases h3 with h3 | ⟨b,off,rfl,h3⟩
 ·have:=congrArg List.length h3
  rw [List.length_map,encL.all_length] at this
  have hs:encL.sz=4:=rfl
  simp [hs] at this
  omega
 ·have hc:∀ (i:Nat) (u:Value),(encL.all xs)[i]?=some u->w.cell? ⟨b,off+i,none⟩=some u:=fun i u hu=>by
   obtain ⟨v,hv,hr⟩:=Zau.at h3 (i:=i) (p:=.v u) (by simp [hu])
   simp only [Reads] at hr
   rw [hv,hr.1]
  obtain ⟨u,hu⟩:∃ u,(encL.all xs)[0]?=some u:=⟨_,List.getElem?_eq_getElem (by rw [encL.all_length];show 0 < xs.length * 4;omega)⟩
  exact ⟨b,off,rfl,World.block_lt_of_cell? _ _ (hc 0 u hu),hc⟩
theorem Zbp {w:World} {z:Int} {u:Value} (h:Reads w (pI z) u):u=.int .i64 z:=by
 simp only [Reads] at h;exact h.1
def RHo (ps qs:List PV):Prop:=∃ (l:List LeM) (now c f:Int),l.length<=1000000/\ps=[pRow encL l,pI now,pI c,pI f]/\qs=[pI (Za7 l now c f)]
theorem fHo:∀ ps q1 q2,RHo ps q1->RHo ps q2->q1=q2:=by
 rintro ps q1 q2 ⟨l,n,c,f,_,rfl,rfl⟩ ⟨l',n',c',f',_,h,rfl⟩
 simp only [List.cons.injEq,PV.v.injEq,Value.int.injEq,true_and,and_true] at h
 obtain ⟨h,rfl,rfl,rfl⟩:=h
 rw [fil.pRow_inj Zdb h]
theorem toldHo (k:Nat):ToldF 10 (EHo k) (spec RHo):=by
 intro w FP us ps qs hsp hul hpl hFP hrd
 obtain ⟨l,now,c,f,hl,rfl,rfl⟩:=Zbd hsp
 cases hf:l.find? (isL c f) with
 | some x =>
  refine toldHo1 k w FP us _ _ (Zav fHo1 ⟨l,now,c,f,x,hl,hf,rfl,?_⟩) hul hpl hFP hrd
  simp only [Za7,hf]
 | none =>
  obtain ⟨u0,u1,u2,u3,rfl⟩:∃ u0 u1 u2 u3,us=[u0,u1,u2,u3]:=by
   match us,hul with
   | [a,b,c,d],_=>exact ⟨a,b,c,d,rfl⟩
  have r0:=Zfg (hrd 0 _ u0 rfl rfl).1
  obtain rfl:=Zbp (hrd 1 _ u1 rfl rfl).1
  obtain rfl:=Zbp (hrd 2 _ u2 rfl rfl).1
  obtain rfl:=Zbp (hrd 3 _ u3 rfl rfl).1
  refine (holds_none u0 l now c f w r0 hl hf).mono ?_
  rintro e w' ⟨rfl,hE⟩
  refine ⟨[.int .i64 0],fun _=>none,rfl,rfl,Zbw rfl,fun i q u hq hu w2 _=>?_,rfl,hE⟩
  simp only [Za7,hf] at hq
  match i,hq,hu with
  | 0,hq,hu=>simp at hq hu;subst hq;subst hu;simp only [Reads];exact ⟨trivial,rfl⟩
  | i+1,hq,hu=>simp at hq
theorem Zez {w w' w2:World} {xs:List LeM} {v:Value} (hl:xs.length<=1000000) (h:w'.ownsRow w.heap.size 32 4 v xs.length (encL.all xs)) (hw:∀ k,(w.heap.size<=k/\k < w'.heap.size)->w2.heap[k]?=w'.heap[k]?):Reads w2 (pRow encL xs) v:=by
 rcases h.2 with ⟨rfl,h0⟩ | ⟨b,cap,cur,rfl,hb,hc,h1,h2,h3,h4⟩
 ·rw [List.eq_nil_of_length_eq_zero h0]
  simp only [pRow,Reads]
  exact ⟨none,0,rfl,Nat.le_refl _,Nat.zero_le _,.inl rfl⟩
 ·have hlt:b < w'.heap.size:=(Array.getElem?_eq_some_iff.1 hc).1
  simp only [pRow,Reads]
  refine ⟨_,_,rfl,h1,h2,.inr ⟨b,0,rfl,Zau.of fun j p hj=>?_⟩⟩
  rw [List.getElem?_map,Option.map_eq_some_iff] at hj
  obtain ⟨u,hu,rfl⟩:=hj
  refine ⟨u,?_,rfl,encL.all_one' xs u (List.mem_of_getElem? hu)⟩
  simp only [World.cell?,hw b ⟨hb,hlt⟩,hc,Nat.zero_add]
  rw [<- h4,List.getElem?_take] at hu
  split at hu
  ·simpa using hu
  ·cases hu
def dropL (l:List LeM) (c f:Int):List LeM:=l.filter fun x=>!(x.1 == c && x.2.1 == f)
def Zhf (l:List LeM) (t:Int):List LeM:=l.filter fun x=>!decide (x.2.2.2<=t)
def RDr (ps qs:List PV):Prop:=∃ (l:List LeM) (c f:Int),l.length<=1000000/\ps=[pRow encL l,pI c,pI f]/\qs=[pRow encL (dropL l c f)]
theorem fDr:∀ ps q1 q2,RDr ps q1->RDr ps q2->q1=q2:=by
 rintro ps q1 q2 ⟨l,c,f,_,rfl,rfl⟩ ⟨l',c',f',_,h,rfl⟩
 simp only [List.cons.injEq,PV.v.injEq,Value.int.injEq,true_and,and_true] at h
 obtain ⟨h,rfl,rfl⟩:=h
 rw [fil.pRow_inj Zdb h]
theorem toldDr (k:Nat):ToldF 7 (EDr k) (spec RDr):=by
 intro w FP us ps qs hsp hul hpl hFP hrd
 obtain ⟨l,c,f,hl,rfl,rfl⟩:=Zbd hsp
 obtain ⟨u0,u1,u2,rfl⟩:∃ u0 u1 u2,us=[u0,u1,u2]:=by
  match us,hul with
  | [a,b,c],_=>exact ⟨a,b,c,rfl⟩
 have r0:=Zfg (hrd 0 _ u0 rfl rfl).1
 obtain rfl:=Zbp (hrd 1 _ u1 rfl rfl).1
 obtain rfl:=Zbp (hrd 2 _ u2 rfl rfl).1
 refine (drop_any c f u0 l w r0 hl).mono ?_
 rintro e w' ⟨v,rfl,hown,hE⟩
 refine ⟨[v],fun _=>none,rfl,rfl,Zbw rfl,fun i q u hq hu w2 hw2=>?_,rfl,hE⟩
 match i,hq,hu with
 | 0,hq,hu =>
  simp at hq hu;subst hq;subst hu
  exact Zez (Nat.le_trans (List.length_filter_le _ _) hl) hown fun k hk=>hw2 k (.inr hk) (fun j _=>by simp)
 | i+1,hq,hu=>simp at hq
def RPr (ps qs:List PV):Prop:=∃ (l:List LeM) (t:Int),l.length<=1000000/\ps=[pRow encL l,pI t]/\qs=[pRow encL (Zhf l t)]
theorem fPr:∀ ps q1 q2,RPr ps q1->RPr ps q2->q1=q2:=by
 rintro ps q1 q2 ⟨l,c,_,rfl,rfl⟩ ⟨l',c',_,h,rfl⟩
 simp only [List.cons.injEq,PV.v.injEq,Value.int.injEq,true_and,and_true] at h
 obtain ⟨h,rfl⟩:=h
 rw [fil.pRow_inj Zdb h]
theorem toldPr (k:Nat):ToldF 6 (EPr k) (spec RPr):=by
 intro w FP us ps qs hsp hul hpl hFP hrd
 obtain ⟨l,t,hl,rfl,rfl⟩:=Zbd hsp
 obtain ⟨u0,u1,rfl⟩:∃ u0 u1,us=[u0,u1]:=by
  match us,hul with
  | [a,b],_=>exact ⟨a,b,rfl⟩
 have r0:=Zfg (hrd 0 _ u0 rfl rfl).1
 obtain rfl:=Zbp (hrd 1 _ u1 rfl rfl).1
 refine (prune_any t u0 l w r0 hl).mono ?_
 rintro e w' ⟨v,rfl,hown,hE⟩
 refine ⟨[v],fun _=>none,rfl,rfl,Zbw rfl,fun i q u hq hu w2 hw2=>?_,rfl,hE⟩
 match i,hq,hu with
 | 0,hq,hu =>
  simp at hq hu;subst hq;subst hu
  exact Zez (Nat.le_trans (List.length_filter_le _ _) hl) hown fun k hk=>hw2 k (.inr hk) (fun j _=>by simp)
 | i+1,hq,hu=>simp at hq
end Go.Proofs.Ytpnegheknjeljaa.leb
