/- Leases: package lease's Holds, Drop and Prune, told. -/
import Derived.Test.YtcaclmdkhffegaaLhp
import Derived.Test.YtcaclmdkhffegaaLhd
namespace Go.Proofs.Ytcaclmdkhffegaa.leb
open Go Go.RowKit eng SX Fact fil lem lea lho lhp lhd
set_option linter.unusedVariables false
set_option linter.unusedSimpArgs false
set_option maxRecDepth 1000000
def EDr (k:Nat):FnE:={ k:=k,ins:=[none,none,none],leaks:=[false,false,false],outs:=[none],kinds:=[.row] }
def EPr (k:Nat):FnE:={ k:=k,ins:=[none,none],leaks:=[false,false],outs:=[none],kinds:=[.row] }
def Zfa (l:List LeM) (now c f:Int):Int:=match l.find? (isL c f) with | some x=>if x.2.2.2<=now then 0 else x.2.2.1 | none=>0
@[simp] theorem holds_fxL (B:Base) (f:FuncId) (E:FnE) (pans:List Value) (es:List SX):(Fact.fx f E pans es).holds B ↔ ToldX f E pans (B.F E.k)/\∃ ps qs,evs B.s B.F es=some ps/\B.F E.k ps=some qs:=Iff.rfl
theorem Zc3 {w:World} {l:Value} {xs:List LeM} (h:Reads w (pRow encL xs) l):RowE encL w l xs:=by
 simp only [pRow,Reads] at h
 obtain ⟨a,cap,rfl,h1,h2,h3⟩:=h
 refine ⟨a,cap,rfl,h1,h2,fun h0=>?_⟩
 rcases h3 with h3 | ⟨b,off,rfl,h3⟩
 ·have:=congrArg List.length h3
  rw [List.length_map,encL.all_length] at this
  have hs:encL.sz=4:=rfl
  simp [hs] at this
  omega
 ·have hc:∀ (i:Nat) (u:Value),(encL.all xs)[i]?=some u->w.cell? ⟨b,off+i,none⟩=some u:=fun i u hu=>by
   obtain ⟨v,hv,hr⟩:=Zav.at h3 (i:=i) (p:=.v u) (by simp [hu])
   simp only [Reads] at hr
   rw [hv,hr.1]
  obtain ⟨u,hu⟩:∃ u,(encL.all xs)[0]?=some u:=⟨_,List.getElem?_eq_getElem (by rw [encL.all_length];show 0 < xs.length * 4;omega)⟩
  exact ⟨b,off,rfl,World.block_lt_of_cell? _ _ (hc 0 u hu),hc⟩
theorem Za2 {w:World} {z:Int} {u:Value} (h:Reads w (pI z) u):u=.int .i64 z:=by
 simp only [Reads] at h;exact h.1
theorem Zff {w w' w2:World} {xs:List LeM} {v:Value} (hl:xs.length<=1000000) (h:w'.ownsRow w.heap.size 57 4 v xs.length (encL.all xs)) (hw:∀ k,(w.heap.size<=k/\k < w'.heap.size)->w2.heap[k]?=w'.heap[k]?):Reads w2 (pRow encL xs) v:=by
 rcases h.2 with ⟨rfl,h0⟩ | ⟨b,cap,cur,rfl,hb,hc,h1,h2,h3,h4⟩
 ·rw [List.eq_nil_of_length_eq_zero h0]
  simp only [pRow,Reads]
  exact ⟨none,0,rfl,Nat.le_refl _,Nat.zero_le _,.inl rfl⟩
 ·have hlt:b < w'.heap.size:=(Array.getElem?_eq_some_iff.1 hc).1
  simp only [pRow,Reads]
  refine ⟨_,_,rfl,h1,h2,.inr ⟨b,0,rfl,Zav.of fun j p hj=>?_⟩⟩
  rw [List.getElem?_map,Option.map_eq_some_iff] at hj
  obtain ⟨u,hu,rfl⟩:=hj
  refine ⟨u,?_,rfl,encL.all_one' xs u (List.mem_of_getElem? hu)⟩
  simp only [World.cell?,hw b ⟨hb,hlt⟩,hc,Nat.zero_add]
  rw [<- h4,List.getElem?_take] at hu
  split at hu
  ·simpa using hu
  ·cases hu
def dropL (l:List LeM) (c f:Int):List LeM:=l.filter fun x=>!(x.1 == c && x.2.1 == f)
def Zb8 (l:List LeM) (t:Int):List LeM:=l.filter fun x=>!decide (x.2.2.2<=t)
def RDr (ps qs:List PV):Prop:=∃ (l:List LeM) (c f:Int),l.length<=1000000/\ps=[pRow encL l,pI c,pI f]/\qs=[pRow encL (dropL l c f)]
theorem fDr:∀ ps q1 q2,RDr ps q1->RDr ps q2->q1=q2:=by
 rintro ps q1 q2 ⟨l,c,f,_,rfl,rfl⟩ ⟨l',c',f',_,h,rfl⟩
 simp only [List.cons.injEq,PV.v.injEq,Value.int.injEq,true_and,and_true] at h
 obtain ⟨h,rfl,rfl⟩:=h
 rw [fil.pRow_inj Zay h]
theorem Zlb (k:Nat):ToldF 26 (EDr k) (spec RDr):=by
 intro w FP us ps qs hsp hul hpl hFP hrd
 obtain ⟨l,c,f,hl,rfl,rfl⟩:=Zap hsp
 obtain ⟨u0,u1,u2,rfl⟩:∃ u0 u1 u2,us=[u0,u1,u2]:=by
  match us,hul with
  | [a,b,c],_=>exact ⟨a,b,c,rfl⟩
 have r0:=Zc3 (hrd 0 _ u0 rfl rfl).1
 obtain rfl:=Za2 (hrd 1 _ u1 rfl rfl).1
 obtain rfl:=Za2 (hrd 2 _ u2 rfl rfl).1
 refine (Zhd c f u0 l w r0 hl).mono ?_
 rintro e w' ⟨v,rfl,hown,hE⟩
 refine ⟨[v],fun _=>none,rfl,rfl,Zbm rfl,fun i q u hq hu w2 hw2=>?_,rfl,hE⟩
 match i,hq,hu with
 | 0,hq,hu =>
  simp at hq hu;subst hq;subst hu
  exact Zff (Nat.le_trans (List.length_filter_le _ _) hl) hown fun k hk=>hw2 k (.inr hk) (fun j _=>by simp)
 | i+1,hq,hu=>simp at hq
def RPr (ps qs:List PV):Prop:=∃ (l:List LeM) (t:Int),l.length<=1000000/\ps=[pRow encL l,pI t]/\qs=[pRow encL (Zb8 l t)]
theorem fPr:∀ ps q1 q2,RPr ps q1->RPr ps q2->q1=q2:=by
 rintro ps q1 q2 ⟨l,c,_,rfl,rfl⟩ ⟨l',c',_,h,rfl⟩
 simp only [List.cons.injEq,PV.v.injEq,Value.int.injEq,true_and,and_true] at h
 obtain ⟨h,rfl⟩:=h
 rw [fil.pRow_inj Zay h]
theorem Zk9 (k:Nat):ToldF 50 (EPr k) (spec RPr):=by
 intro w FP us ps qs hsp hul hpl hFP hrd
 obtain ⟨l,t,hl,rfl,rfl⟩:=Zap hsp
 obtain ⟨u0,u1,rfl⟩:∃ u0 u1,us=[u0,u1]:=by
  match us,hul with
  | [a,b],_=>exact ⟨a,b,rfl⟩
 have r0:=Zc3 (hrd 0 _ u0 rfl rfl).1
 obtain rfl:=Za2 (hrd 1 _ u1 rfl rfl).1
 refine (prune_any t u0 l w r0 hl).mono ?_
 rintro e w' ⟨v,rfl,hown,hE⟩
 refine ⟨[v],fun _=>none,rfl,rfl,Zbm rfl,fun i q u hq hu w2 hw2=>?_,rfl,hE⟩
 match i,hq,hu with
 | 0,hq,hu =>
  simp at hq hu;subst hq;subst hu
  exact Zff (Nat.le_trans (List.length_filter_le _ _) hl) hown fun k hk=>hw2 k (.inr hk) (fun j _=>by simp)
 | i+1,hq,hu=>simp at hq
end Go.Proofs.Ytcaclmdkhffegaa.leb
