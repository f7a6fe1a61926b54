/- The document's DropWait, told: what it tells is the caller's own. -/
import Derived.Test.YtcaclmdkhffegaaLgr
import Derived.Test.YtcaclmdkhffegaaWlm
namespace Go.Proofs.Ytcaclmdkhffegaa.wdp
open Go Go.RowKit eng SX Fact fil lem lea wlm
set_option linter.unusedVariables false
set_option linter.unusedSimpArgs false
set_option maxRecDepth 1000000
def isApp:Op->Bool | .call { callee:=.builtin .append,.. }=>true | _=>false
def hApp (_:FuncId) (o:Oper):Option Hint:=cond (isApp o.op) (some .own) none
def EDd (k:Nat):FnE:={ k:=k,ins:=[none,none],leaks:=[false,false],outs:=[none],kinds:=[.own 25 4 true] }
noncomputable def flD:=flat (Za1 Try.prog 59)
noncomputable def lpD:=flat (Zah (nth flD 3))
def bwait (k:Nat):BoxT:=⟨25,4,true,[],some k,false⟩
def shD:Shape:=⟨[(0,.leaf),(1,.leaf)],[],[some false,none],28,59⟩
def shA:Shape:=⟨[(0,.leaf),(1,.leaf),(5,.nil),(6,.leaf)],[],[some false,none,none],28,59⟩
def shB:Shape:=⟨[(0,.leaf),(1,.leaf),(5,.own 0 3 4),(6,.leaf)],[bwait 3],[some false,none,none],28,59⟩
def shRA:Shape:=⟨[(4,.nil)],[],[],28,59⟩
def shRB:Shape:=⟨[(4,.own 0 0 4)],[bwait 0],[],28,59⟩
@[simp] def zWdp1:SX:=.lit 1 [.cell (.var 0) (.var 2) 4 0,.cell (.var 0) (.var 2) 4 1,.cell (.var 0) (.var 2) 4 2,.cell (.var 0) (.var 2) 4 3]
@[simp] def zWdp2:SX:=.bin .add (.var 2) (.con (.int .i64 1))
@[simp] def zWdp3:SX:=.bin .lss (.var 2) (.len (.var 0))
@[simp] def zWdp4:SX:=.bin .neq (.cell (.var 0) (.var 2) 4 0) (.var 1)
@[simp] def zWdp5:Fact:=.idx (.var 0) (.var 2) 4 4
@[simp] def zWdp6:Fact:=.ok (.cell (.var 0) (.var 2) 4 0)
@[simp] def zWdp7:Fact:=same (.len (.var 3)) (.len (.var 3))
@[simp] def zWdp8:Fact:=.ok (.len (.var 0))
@[simp] def zWdp9:SX:=rop ROp.cat [.var 3,zWdp1]
@[simp] def Zoe:Fact:=.idx (.var 0) (.var 2) 4 1
@[simp] def Zod:Fact:=.is zWdp3 (.bool true)
theorem pre:segTo Try.prog fil.noOrc 10000 (flD.take 3) shD [] shA [] hApp=some (.normal,[.ok (.var 1),.ok (.con (.int .i64 0))],[.var 0,.var 1,.con (.int .i64 0)]):=by kernel_rfl
theorem exA:segTo Try.prog fil.noOrc 10000 lpD shA [0] shA [] hApp=some (.exit 0,[zWdp8,.ok zWdp3,.is zWdp3 (.bool false),.ok (.var 1),.ok (.var 2)],[.var 0,.var 1,.var 2]):=by kernel_rfl
theorem exB:segTo Try.prog fil.noOrc 10000 lpD shB [0] shB [(0,0)] hApp=some (.exit 0,[zWdp8,.ok zWdp3,.is zWdp3 (.bool false),.ok (.var 1),.ok (.var 2),zWdp7],[.var 0,.var 1,.var 2,.var 3]):=by kernel_rfl
theorem a0:segTo Try.prog fil.noOrc 10000 lpD shA [1,0] shA [] hApp=some (.normal,[zWdp8,.ok zWdp3,Zod,zWdp5,Zoe,zWdp6,.ok zWdp4,.is zWdp4 (.bool false),.ok zWdp2,.ok (.var 1),.ok zWdp2],[.var 0,.var 1,zWdp2]):=by kernel_rfl
theorem b0:segTo Try.prog fil.noOrc 10000 lpD shB [1,0] shB [(0,0)] hApp=some (.normal,[zWdp8,.ok zWdp3,Zod,zWdp5,Zoe,zWdp6,.ok zWdp4,.is zWdp4 (.bool false),.ok zWdp2,.ok (.var 1),.ok zWdp2,zWdp7],[.var 0,.var 1,zWdp2,.var 3]):=by kernel_rfl
theorem a1:segTo Try.prog fil.noOrc 10000 lpD shA [1,1] shB [(2,0)] hApp=some (.normal,[zWdp8,.ok zWdp3,Zod,zWdp5,Zoe,zWdp6,.ok zWdp4,.is zWdp4 (.bool true),zWdp5,zWdp5,zWdp6,.ok (.cell (.var 0) (.var 2) 4 1),.ok (.cell (.var 0) (.var 2) 4 2),.ok (.cell (.var 0) (.var 2) 4 3),rng (.con (.int .i64 0)) (.len zWdp1),upto (.len zWdp1) 4294967296,.ok zWdp2,.ok (.var 1),.ok zWdp2,same (.len zWdp1) (.len zWdp1)],[.var 0,.var 1,zWdp2,zWdp1]):=by kernel_rfl
theorem b1:segTo Try.prog fil.noOrc 10000 lpD shB [1,1] shB [(0,1)] hApp=some (.normal,[zWdp8,.ok zWdp3,Zod,zWdp5,Zoe,zWdp6,.ok zWdp4,.is zWdp4 (.bool true),zWdp5,zWdp5,zWdp6,.ok (.cell (.var 0) (.var 2) 4 1),.ok (.cell (.var 0) (.var 2) 4 2),.ok (.cell (.var 0) (.var 2) 4 3),zWdp7,upto (.len zWdp9) 4294967296,.ok zWdp2,.ok (.var 1),.ok zWdp2,same (.len zWdp9) (.len zWdp9)],[.var 0,.var 1,zWdp2,zWdp9]):=by kernel_rfl
theorem postA:segTo Try.prog fil.noOrc 10000 (flD.drop 4) shA [] shRA [] hApp=some (.ret,[],[]):=by kernel_rfl
theorem postB:segTo Try.prog fil.noOrc 10000 (flD.drop 4) shB [] shRB [(0,0)] hApp=some (.ret,[zWdp7],[.var 3]):=by kernel_rfl
theorem r_catL (acc:List LeM) (x:LeM):ropPV .cat [pRow encL acc,.row 1 [pI x.1,pI x.2.1,pI x.2.2.1,pI x.2.2.2]]=some (pRow encL (acc++[x])):=by simp [ropPV,pRow,Enc.all,encL]
theorem one_rowL (x:LeM):PV.row 1 [pI x.1,pI x.2.1,pI x.2.2.1,pI x.2.2.2]=pRow encL [x]:=by simp [pRow,Enc.all,encL]
theorem lenL (xs:List LeM):lenPV (pRow encL xs)=some (pI (xs.length:Int)):=rfl
def RDd (ps qs:List PV):Prop:=∃ (l:List LeM) (c:Int),l.length<=1000000/\ps=[pRow encL l,pI c]/\qs=[pRow encL (dropW l c)]
theorem fDd:∀ ps q1 q2,RDd ps q1->RDd ps q2->q1=q2:=by
 rintro ps q1 q2 ⟨l,c,_,rfl,rfl⟩ ⟨l',c',_,h,rfl⟩
 simp only [List.cons.injEq,PV.v.injEq,Value.int.injEq,true_and,and_true] at h
 obtain ⟨h,rfl⟩:=h
 rw [fil.pRow_inj Zar h]
theorem cutD:flD=flD.take 3++.block (Zaf (nth flD 3)) (.loop (Zah (nth flD 3))) :: flD.drop 4:=by kernel_rfl
def InD (C:Base) (l:List LeM) (c:Int) (i:Nat) (a:Act) (w:World):Prop :=
 (dropW (l.take i) c=[]/\Zag C shA [pRow encL l,pI c,pI (i:Int)] a w) ∨
 (dropW (l.take i) c ≠ []/\Zag C shB [pRow encL l,pI c,pI (i:Int),pRow encL (dropW (l.take i) c)] a w)
set_option maxHeartbeats 4000000 in
theorem toldDd (k:Nat):ToldF 59 (EDd k) (spec RDd):=by
 refine Zmc (fun _ _=>none) _ (Za1 Try.prog 59) Try.func59 (by kernel_rfl) shD (by kernel_rfl) ?_ ?_
 ·intro ps qs h
  obtain ⟨l,c,_,rfl,rfl⟩:=Zal h
  exact Zb3 rfl
 ·intro C ps qs hF h a w hsh
  obtain ⟨l,c,hl,rfl,rfl⟩:=Zal h
  show wpL Try.prog flD _ a w
  rw [cutD]
  refine Zad names_ok mixed_ok fil.noOrc_ok pre hsh ?_ ?_
  ·simp [Base.ev,SX.ev,evs,Value.oneCell',Zac]
  ·intro qs a1' w1 hq h1
   refine ⟨fun _=>?_,fun h=>absurd rfl h⟩
   simp [evs,SX.ev,Zac] at hq
   subst hq
   refine Zas (fun n a w=>∃ i,i<=l.length/\n=l.length - i/\InD C l c i a w) ?_ (n:=l.length) ⟨0,by omega,by omega,.inl ⟨by simp [dropW],h1⟩⟩
   rintro n a w ⟨i,hi,rfl,hin⟩
   show wpL Try.prog lpD _ a w
   rw [<- List.append_nil lpD]
   by_cases hlt:i < l.length
   ·obtain ⟨c0',c1',c2',c3'⟩:=cellL l i hlt
    have ix:=Zan encL l i 4 4 .i64 rfl hlt (by decide)
    have ix1:=Zan encL l i 4 1 .i64 rfl hlt (by decide)
    have v3:IntKind.i64.wrap ((i:Int)+1)=(i:Int)+1:=wrapI _ (by omega) (by omega)
    have hst:=drop_step hlt c
    have hal:=Zdn (l.take i) c
    rw [List.length_take,Nat.min_eq_left (by omega)] at hal
    unfold InD at hin
    generalize hacc:dropW (l.take i) c=acc at *
    by_cases d:l[i].1=c
    ·rw [if_pos d,List.append_nil] at hst
     rcases hin with ⟨h0,hin⟩ | ⟨h0,hin⟩
     ·refine Zad names_ok mixed_ok fil.noOrc_ok a0 hin ?_ ?_
      ·simp [Zab,Zaa,Base.ev,SX.ev,evs,Value.oneCell',Zac,binPV,c0',c1',c2',c3',ix,ix1,v3,hlt,d,lenL,one_rowL]
      ·intro qs a1' w1 hq h1
       refine ⟨fun _=>.inl ⟨rfl,l.length - (i+1),by omega,i+1,by omega,rfl,.inl ⟨by rw [hst];exact h0,?_⟩⟩,fun h=>absurd rfl h⟩
       simp [evs,SX.ev,binPV,v3] at hq
       subst hq
       exact h1
     ·refine Zad names_ok mixed_ok fil.noOrc_ok b0 hin ?_ ?_
      ·simp [Zab,Zaa,Base.ev,SX.ev,evs,Value.oneCell',Zac,binPV,c0',c1',c2',c3',ix,ix1,v3,hlt,d,lenL,one_rowL]
      ·intro qs a1' w1 hq h1
       refine ⟨fun _=>.inl ⟨rfl,l.length - (i+1),by omega,i+1,by omega,rfl,.inr ⟨by rw [hst];exact h0,?_⟩⟩,fun h=>absurd rfl h⟩
       simp [evs,SX.ev,binPV,v3] at hq
       subst hq
       rw [hst]
       exact h1
    ·rw [if_neg d] at hst
     have hne:acc++[l[i]] ≠ []:=by simp
     rcases hin with ⟨h0,hin⟩ | ⟨h0,hin⟩
     ·refine Zad names_ok mixed_ok fil.noOrc_ok a1 hin ?_ ?_
      ·simp [Zab,Zaa,Base.ev,SX.ev,evs,Value.oneCell',Zac,binPV,c0',c1',c2',c3',ix,ix1,v3,hlt,d,lenL,one_rowL]
       all_goals omega
      ·intro qs a1' w1 hq h1
       refine ⟨fun _=>.inl ⟨rfl,l.length - (i+1),by omega,i+1,by omega,rfl,.inr ⟨by rw [hst];exact hne,?_⟩⟩,fun h=>absurd rfl h⟩
       simp [evs,SX.ev,binPV,v3,c0',c1',c2',c3',one_rowL] at hq
       subst hq
       rw [hst,h0]
       exact h1
     ·have rc:=r_catL acc l[i]
      refine Zad names_ok mixed_ok fil.noOrc_ok b1 hin ?_ ?_
      ·simp [Zab,Zaa,Base.ev,SX.ev,evs,Value.oneCell',Zac,binPV,c0',c1',c2',c3',ix,ix1,v3,hlt,d,lenL,rc]
       all_goals first | omega | exact ⟨⟨acc.length+1,by omega,by omega⟩,acc.length+1,by omega⟩
      ·intro qs a1' w1 hq h1
       refine ⟨fun _=>.inl ⟨rfl,l.length - (i+1),by omega,i+1,by omega,rfl,.inr ⟨by rw [hst];exact hne,?_⟩⟩,fun h=>absurd rfl h⟩
       simp [evs,SX.ev,binPV,v3,c0',c1',c2',c3',rc] at hq
       subst hq
       rw [hst]
       exact h1
   ·have hie:i=l.length:=by omega
    subst hie
    rw [InD,List.take_length] at hin
    rcases hin with ⟨h0,hin⟩ | ⟨h0,hin⟩
    ·refine Zad names_ok mixed_ok fil.noOrc_ok exA hin ?_ ?_
     ·simp [Base.ev,SX.ev,evs,Value.oneCell',binPV,lenL]
     ·intro qs a1' w1 hq h1
      simp [evs,SX.ev] at hq
      subst hq
      refine ⟨nofun,fun _=>.inr (.inl ⟨by rw [show Zaf (nth flD 3)=0 by kernel_rfl];rfl,?_⟩)⟩
      rw [<- List.append_nil (flD.drop 4)]
      refine Zad names_ok mixed_ok fil.noOrc_ok postA h1 (by simp) ?_
      intro qs a2 w2 hq h2
      simp [evs] at hq
      subst hq
      refine ⟨nofun,fun _=>⟨.inr rfl,shRA,[],[.lit 0 []],[],h2,by kernel_rfl,?_,fun i hi=>by simp at hi⟩⟩
      rw [h0];rfl
    ·have hdl:=Zdn l c
     refine Zad names_ok mixed_ok fil.noOrc_ok exB hin ?_ ?_
     ·simp [Base.ev,SX.ev,evs,Value.oneCell',binPV,lenL]
     ·intro qs a1' w1 hq h1
      simp [evs,SX.ev] at hq
      subst hq
      refine ⟨nofun,fun _=>.inr (.inl ⟨by rw [show Zaf (nth flD 3)=0 by kernel_rfl];rfl,?_⟩)⟩
      rw [<- List.append_nil (flD.drop 4)]
      refine Zad names_ok mixed_ok fil.noOrc_ok postB h1 ?_ ?_
      ·simp [Base.ev,SX.ev,evs,Value.oneCell',lenL]
      intro qs a2 w2 hq h2
      simp [evs,SX.ev] at hq
      subst hq
      refine ⟨nofun,fun _=>⟨.inr rfl,shRB,_,[.var 0],[0],h2,by kernel_rfl,by simp [evs,SX.ev],fun i hi=>?_⟩⟩
      simp at hi
      subst hi
      cases hd:dropW l c with
      | nil=>exact absurd hd h0
      | cons z r=>exact ⟨r.length,_,rfl⟩
theorem told_row {f:FuncId} {E E':FnE} {R:List PV->Option (List PV)} (h:ToldF f E R) (h1:E'.ins=E.ins) (h2:E'.leaks=E.leaks) (h3:E'.outs=E.outs) (h5:E'.kinds.all CK.plain=true):ToldF f E' R:=by
 intro w FP us ps qs a b c d e
 rw [h1] at c ⊢
 rw [h2] at e
 refine (h w FP us ps qs a b c d e).mono ?_
 rintro e w' ⟨us',ow,g1,g2,how,g4,g5,g6⟩
 exact ⟨us',fun _=>none,g1,by rw [h3];exact g2,Zbk h5,fun i q u hq hu w2 hw2=>g4 i q u hq hu w2 (fun k hk _=>hw2 k hk (fun _ _=>by simp)),by rw [h3];exact g5,g6⟩
def EDr (k:Nat):FnE:={ EDd k with kinds:=[.row] }
theorem Zlw (k:Nat):ToldF 59 (EDr k) (spec RDd):=told_row (toldDd k) rfl rfl rfl rfl
@[simp] theorem kDr (k:Nat):(EDr k).k=k:=rfl
end Go.Proofs.Ytcaclmdkhffegaa.wdp
