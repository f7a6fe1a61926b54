/- The document's Drop and Prune, told: what they tell is the caller's own. -/
import Derived.Test.YtcaclmdkhffegaaWdp
namespace Go.Proofs.Ytcaclmdkhffegaa.ldp
open Go Go.RowKit eng SX Fact fil lem lea leb
set_option linter.unusedVariables false
set_option linter.unusedSimpArgs false
set_option maxRecDepth 1000000
def isApp:Op->Bool | .call { callee:=.builtin .append,.. }=>true | _=>false
def hApp (_:FuncId) (o:Oper):Option Hint:=cond (isApp o.op) (some .own) none
def Zl3 (k:Nat):BoxT:=⟨57,4,true,[],some k,false⟩
theorem r_catL (acc:List LeM) (x:LeM):ropPV .cat [pRow encL acc,.row 1 [pI x.1,pI x.2.1,pI x.2.2.1,pI x.2.2.2]]=some (pRow encL (acc++[x])):=by simp [ropPV,pRow,Enc.all,encL]
theorem one_rowL (x:LeM):PV.row 1 [pI x.1,pI x.2.1,pI x.2.2.1,pI x.2.2.2]=pRow encL [x]:=by simp [pRow,Enc.all,encL]
theorem lenL (xs:List LeM):lenPV (pRow encL xs)=some (pI (xs.length:Int)):=rfl
theorem filt_step {l:List LeM} {i:Nat} (h:i < l.length) (p:LeM->Bool):(l.take (i+1)).filter p=(l.take i).filter p++(if p l[i]=true then [l[i]] else []):=by
 rw [List.take_add_one,List.getElem?_eq_getElem h,List.filter_append]
 simp only [Option.toList_some,List.filter_cons,List.filter_nil]

def EDq (k:Nat):FnE:={ k:=k,ins:=[none,none,none],leaks:=[false,false,false],outs:=[none],kinds:=[.own 57 4 true] }
noncomputable def flDq:=flat (Za1 Try.prog 28)
noncomputable def lpDq:=flat (Zah (nth flDq 3))
def shDq:Shape:=⟨[(0,.leaf),(1,.leaf),(2,.leaf)],[],[some false,none,none],39,28⟩
def shADq:Shape:=⟨[(0,.leaf),(1,.leaf),(2,.leaf),(7,.nil),(8,.leaf)],[],[some false,none,none,none],39,28⟩
def shBDq:Shape:=⟨[(0,.leaf),(1,.leaf),(2,.leaf),(7,.own 0 4 4),(8,.leaf)],[Zl3 4],[some false,none,none,none],39,28⟩
def shRADq:Shape:=⟨[(6,.nil)],[],[],39,28⟩
def shRBDq:Shape:=⟨[(6,.own 0 0 4)],[Zl3 0],[],39,28⟩
def EPq (k:Nat):FnE:={ k:=k,ins:=[none,none],leaks:=[false,false],outs:=[none],kinds:=[.own 57 4 true] }
noncomputable def flPq:=flat (Za1 Try.prog 35)
noncomputable def lpPq:=flat (Zah (nth flPq 3))
def shPq:Shape:=⟨[(0,.leaf),(1,.leaf)],[],[some false,none],28,35⟩
def shAPq:Shape:=⟨[(0,.leaf),(1,.leaf),(5,.nil),(6,.leaf)],[],[some false,none,none],28,35⟩
def shBPq:Shape:=⟨[(0,.leaf),(1,.leaf),(5,.own 0 3 4),(6,.leaf)],[Zl3 3],[some false,none,none],28,35⟩
def shRAPq:Shape:=⟨[(4,.nil)],[],[],28,35⟩
def shRBPq:Shape:=⟨[(4,.own 0 0 4)],[Zl3 0],[],28,35⟩
@[simp] def zLdp1:SX:=.lit 1 [.cell (.var 0) (.var 3) 4 0,.cell (.var 0) (.var 3) 4 1,.cell (.var 0) (.var 3) 4 2,.cell (.var 0) (.var 3) 4 3]
@[simp] def zLdp2:SX:=.lit 1 [.cell (.var 0) (.var 2) 4 0,.cell (.var 0) (.var 2) 4 1,.cell (.var 0) (.var 2) 4 2,.cell (.var 0) (.var 2) 4 3]
@[simp] def zLdp3:SX:=.bin .add (.var 3) (.con (.int .i64 1))
@[simp] def zLdp4:SX:=.bin .neq (.cell (.var 0) (.var 3) 4 0) (.var 1)
@[simp] def zLdp5:SX:=.bin .lss (.var 3) (.len (.var 0))
@[simp] def zLdp6:SX:=.bin .add (.var 2) (.con (.int .i64 1))
@[simp] def zLdp7:Fact:=.idx (.var 0) (.var 3) 4 4
@[simp] def zLdp8:SX:=.cell (.var 0) (.var 3) 4 1
@[simp] def zLdp9:SX:=.bin .lss (.var 2) (.len (.var 0))
@[simp] def Zix:SX:=.bin .lss (.var 1) (.cell (.var 0) (.var 2) 4 3)
@[simp] def Zgp:Fact:=.ok (.cell (.var 0) (.var 3) 4 0)
@[simp] def Zfh:Fact:=.idx (.var 0) (.var 2) 4 4
@[simp] def Zed:Fact:=.ok (.len (.var 0))
@[simp] def Ziw:SX:=rop ROp.cat [.var 4,zLdp1]
@[simp] def Zlh:Fact:=.ok (.cell (.var 0) (.var 2) 4 3)
@[simp] def Ziv:SX:=.bin .neq zLdp8 (.var 2)
@[simp] def Znb:Fact:=same (.len (.var 4)) (.len (.var 4))
@[simp] def Zlg:Fact:=.idx (.var 0) (.var 3) 4 1
@[simp] def Zdg:Fact:=.ok (.var 1)
@[simp] def Zo6:Fact:=same (.len (.var 3)) (.len (.var 3))
@[simp] def Zo5:Fact:=.ok (.cell (.var 0) (.var 3) 4 2)
@[simp] def Zo4:Fact:=.ok (.cell (.var 0) (.var 3) 4 3)
@[simp] def Zlf:Fact:=.is zLdp5 (.bool true)
@[simp] def Zj0:SX:=.con (.int .i64 0)
@[simp] def Zo3:SX:=rop ROp.cat [.var 3,zLdp2]
@[simp] def Zfo:Fact:=.ok (.var 2)
@[simp] def Zo2:Fact:=.idx (.var 0) (.var 3) 4 2
@[simp] def Zo1:Fact:=.is zLdp4 (.bool false)
@[simp] def Zo0:Fact:=.is zLdp9 (.bool true)
theorem preDq:segTo Try.prog fil.noOrc 10000 (flDq.take 3) shDq [] shADq [] hApp=some (.normal,[Zdg,Zfo,.ok Zj0],[.var 0,.var 1,.var 2,Zj0]):=by kernel_rfl
theorem exADq:segTo Try.prog fil.noOrc 10000 lpDq shADq [0] shADq [] hApp=some (.exit 0,[Zed,.ok zLdp5,.is zLdp5 (.bool false),Zdg,Zfo,.ok (.var 3)],[.var 0,.var 1,.var 2,.var 3]):=by kernel_rfl
theorem exBDq:segTo Try.prog fil.noOrc 10000 lpDq shBDq [0] shBDq [(0,0)] hApp=some (.exit 0,[Zed,.ok zLdp5,.is zLdp5 (.bool false),Zdg,Zfo,.ok (.var 3),Znb],[.var 0,.var 1,.var 2,.var 3,.var 4]):=by kernel_rfl
theorem aDq00:segTo Try.prog fil.noOrc 10000 lpDq shADq [1,0,0] shADq [] hApp=some (.normal,[Zed,.ok zLdp5,Zlf,zLdp7,Zlg,Zgp,.ok zLdp4,Zo1,zLdp7,Zo2,.ok zLdp8,.ok Ziv,.is Ziv (.bool false),.ok zLdp3,Zdg,Zfo,.ok zLdp3],[.var 0,.var 1,.var 2,zLdp3]):=by kernel_rfl
theorem bDq00:segTo Try.prog fil.noOrc 10000 lpDq shBDq [1,0,0] shBDq [(0,0)] hApp=some (.normal,[Zed,.ok zLdp5,Zlf,zLdp7,Zlg,Zgp,.ok zLdp4,Zo1,zLdp7,Zo2,.ok zLdp8,.ok Ziv,.is Ziv (.bool false),.ok zLdp3,Zdg,Zfo,.ok zLdp3,Znb],[.var 0,.var 1,.var 2,zLdp3,.var 4]):=by kernel_rfl
theorem aDq01:segTo Try.prog fil.noOrc 10000 lpDq shADq [1,0,1] shBDq [(2,0)] hApp=some (.normal,[Zed,.ok zLdp5,Zlf,zLdp7,Zlg,Zgp,.ok zLdp4,Zo1,zLdp7,Zo2,.ok zLdp8,.ok Ziv,.is Ziv (.bool true),zLdp7,zLdp7,Zgp,.ok zLdp8,Zo5,Zo4,rng Zj0 (.len zLdp1),upto (.len zLdp1) 4294967296,.ok zLdp3,Zdg,Zfo,.ok zLdp3,same (.len zLdp1) (.len zLdp1)],[.var 0,.var 1,.var 2,zLdp3,zLdp1]):=by kernel_rfl
theorem bDq01:segTo Try.prog fil.noOrc 10000 lpDq shBDq [1,0,1] shBDq [(0,1)] hApp=some (.normal,[Zed,.ok zLdp5,Zlf,zLdp7,Zlg,Zgp,.ok zLdp4,Zo1,zLdp7,Zo2,.ok zLdp8,.ok Ziv,.is Ziv (.bool true),zLdp7,zLdp7,Zgp,.ok zLdp8,Zo5,Zo4,Znb,upto (.len Ziw) 4294967296,.ok zLdp3,Zdg,Zfo,.ok zLdp3,same (.len Ziw) (.len Ziw)],[.var 0,.var 1,.var 2,zLdp3,Ziw]):=by kernel_rfl
theorem aDq1:segTo Try.prog fil.noOrc 10000 lpDq shADq [1,1] shBDq [(2,0)] hApp=some (.normal,[Zed,.ok zLdp5,Zlf,zLdp7,Zlg,Zgp,.ok zLdp4,.is zLdp4 (.bool true),zLdp7,zLdp7,Zgp,.ok zLdp8,Zo5,Zo4,rng Zj0 (.len zLdp1),upto (.len zLdp1) 4294967296,.ok zLdp3,Zdg,Zfo,.ok zLdp3,same (.len zLdp1) (.len zLdp1)],[.var 0,.var 1,.var 2,zLdp3,zLdp1]):=by kernel_rfl
theorem bDq1:segTo Try.prog fil.noOrc 10000 lpDq shBDq [1,1] shBDq [(0,1)] hApp=some (.normal,[Zed,.ok zLdp5,Zlf,zLdp7,Zlg,Zgp,.ok zLdp4,.is zLdp4 (.bool true),zLdp7,zLdp7,Zgp,.ok zLdp8,Zo5,Zo4,Znb,upto (.len Ziw) 4294967296,.ok zLdp3,Zdg,Zfo,.ok zLdp3,same (.len Ziw) (.len Ziw)],[.var 0,.var 1,.var 2,zLdp3,Ziw]):=by kernel_rfl
theorem postADq:segTo Try.prog fil.noOrc 10000 (flDq.drop 4) shADq [] shRADq [] hApp=some (.ret,[],[]):=by kernel_rfl
theorem postBDq:segTo Try.prog fil.noOrc 10000 (flDq.drop 4) shBDq [] shRBDq [(0,0)] hApp=some (.ret,[Znb],[.var 4]):=by kernel_rfl
theorem prePq:segTo Try.prog fil.noOrc 10000 (flPq.take 3) shPq [] shAPq [] hApp=some (.normal,[Zdg,.ok Zj0],[.var 0,.var 1,Zj0]):=by kernel_rfl
theorem exAPq:segTo Try.prog fil.noOrc 10000 lpPq shAPq [0] shAPq [] hApp=some (.exit 0,[Zed,.ok zLdp9,.is zLdp9 (.bool false),Zdg,Zfo],[.var 0,.var 1,.var 2]):=by kernel_rfl
theorem exBPq:segTo Try.prog fil.noOrc 10000 lpPq shBPq [0] shBPq [(0,0)] hApp=some (.exit 0,[Zed,.ok zLdp9,.is zLdp9 (.bool false),Zdg,Zfo,Zo6],[.var 0,.var 1,.var 2,.var 3]):=by kernel_rfl
theorem aPq0:segTo Try.prog fil.noOrc 10000 lpPq shAPq [1,0] shAPq [] hApp=some (.normal,[Zed,.ok zLdp9,Zo0,Zfh,Zfh,Zlh,.ok Zix,.is Zix (.bool false),.ok zLdp6,Zdg,.ok zLdp6],[.var 0,.var 1,zLdp6]):=by kernel_rfl
theorem bPq0:segTo Try.prog fil.noOrc 10000 lpPq shBPq [1,0] shBPq [(0,0)] hApp=some (.normal,[Zed,.ok zLdp9,Zo0,Zfh,Zfh,Zlh,.ok Zix,.is Zix (.bool false),.ok zLdp6,Zdg,.ok zLdp6,Zo6],[.var 0,.var 1,zLdp6,.var 3]):=by kernel_rfl
theorem aPq1:segTo Try.prog fil.noOrc 10000 lpPq shAPq [1,1] shBPq [(2,0)] hApp=some (.normal,[Zed,.ok zLdp9,Zo0,Zfh,Zfh,Zlh,.ok Zix,.is Zix (.bool true),Zfh,Zfh,.ok (.cell (.var 0) (.var 2) 4 0),.ok (.cell (.var 0) (.var 2) 4 1),.ok (.cell (.var 0) (.var 2) 4 2),Zlh,rng Zj0 (.len zLdp2),upto (.len zLdp2) 4294967296,.ok zLdp6,Zdg,.ok zLdp6,same (.len zLdp2) (.len zLdp2)],[.var 0,.var 1,zLdp6,zLdp2]):=by kernel_rfl
theorem bPq1:segTo Try.prog fil.noOrc 10000 lpPq shBPq [1,1] shBPq [(0,1)] hApp=some (.normal,[Zed,.ok zLdp9,Zo0,Zfh,Zfh,Zlh,.ok Zix,.is Zix (.bool true),Zfh,Zfh,.ok (.cell (.var 0) (.var 2) 4 0),.ok (.cell (.var 0) (.var 2) 4 1),.ok (.cell (.var 0) (.var 2) 4 2),Zlh,Zo6,upto (.len Zo3) 4294967296,.ok zLdp6,Zdg,.ok zLdp6,same (.len Zo3) (.len Zo3)],[.var 0,.var 1,zLdp6,Zo3]):=by kernel_rfl
theorem postAPq:segTo Try.prog fil.noOrc 10000 (flPq.drop 4) shAPq [] shRAPq [] hApp=some (.ret,[],[]):=by kernel_rfl
theorem postBPq:segTo Try.prog fil.noOrc 10000 (flPq.drop 4) shBPq [] shRBPq [(0,0)] hApp=some (.ret,[Zo6],[.var 3]):=by kernel_rfl
def RDq (ps qs:List PV):Prop:=∃ (l:List LeM) (c f:Int),l.length<=1000000/\ps=[pRow encL l,pI c,pI f]/\qs=[pRow encL (dropL l c f)]
theorem fDq:∀ ps q1 q2,RDq ps q1->RDq ps q2->q1=q2:=by
 rintro ps q1 q2 ⟨l,c,f,_,rfl,rfl⟩ ⟨l',c',f',_,h,rfl⟩
 simp only [List.cons.injEq,PV.v.injEq,Value.int.injEq,true_and,and_true] at h
 obtain ⟨h,rfl,rfl⟩:=h
 rw [fil.pRow_inj Zar h]
theorem cutDq:flDq=flDq.take 3++.block (Zaf (nth flDq 3)) (.loop (Zah (nth flDq 3))) :: flDq.drop 4:=by kernel_rfl
def InDq (C:Base) (l:List LeM) (c f:Int) (i:Nat) (a:Act) (w:World):Prop :=
 (dropL (l.take i) c f=[]/\Zag C shADq [pRow encL l,pI c,pI f,pI (i:Int)] a w) ∨
 (dropL (l.take i) c f ≠ []/\Zag C shBDq [pRow encL l,pI c,pI f,pI (i:Int),pRow encL (dropL (l.take i) c f)] a w)
set_option maxHeartbeats 4000000 in
theorem toldDq (k:Nat):ToldF 28 (EDq k) (spec RDq):=by
 refine Zmc (fun _ _=>none) _ (Za1 Try.prog 28) Try.func28 (by kernel_rfl) shDq (by kernel_rfl) ?_ ?_
 ·intro ps qs h
  obtain ⟨l,c,f,_,rfl,rfl⟩:=Zal h
  exact Zb3 rfl
 ·intro C ps qs hF h a w hsh
  obtain ⟨l,c,f,hl,rfl,rfl⟩:=Zal h
  show wpL Try.prog flDq _ a w
  rw [cutDq]
  refine Zad names_ok mixed_ok fil.noOrc_ok preDq hsh ?_ ?_
  ·simp [Base.ev,SX.ev,evs,Value.oneCell',Zac]
  ·intro qs a1' w1 hq h1
   refine ⟨fun _=>?_,fun h=>absurd rfl h⟩
   simp [evs,SX.ev,Zac] at hq
   subst hq
   refine Zas (fun n a w=>∃ i,i<=l.length/\n=l.length - i/\InDq C l c f i a w) ?_ (n:=l.length) ⟨0,by omega,by omega,.inl ⟨by simp [dropL],h1⟩⟩
   rintro n a w ⟨i,hi,rfl,hin⟩
   show wpL Try.prog lpDq _ a w
   rw [<- List.append_nil lpDq]
   have hdl:(dropL l c f).length<=l.length:=List.length_filter_le _ _
   by_cases hlt:i < l.length
   ·obtain ⟨c0',c1',c2',c3'⟩:=cellL l i hlt
    have ix:=Zan encL l i 4 4 .i64 rfl hlt (by decide)
    have ix1:=Zan encL l i 4 1 .i64 rfl hlt (by decide)
    have ix2:=Zan encL l i 4 2 .i64 rfl hlt (by decide)
    have v3:IntKind.i64.wrap ((i:Int)+1)=(i:Int)+1:=wrapI _ (by omega) (by omega)
    have hst:dropL (l.take (i+1)) c f=dropL (l.take i) c f++(if (fun x:LeM=>!(x.1 == c && x.2.1 == f)) l[i]=true then [l[i]] else []):=filt_step hlt _
    have hal:(dropL (l.take i) c f).length<=(l.take i).length:=List.length_filter_le _ _
    rw [List.length_take,Nat.min_eq_left (by omega)] at hal
    unfold InDq at hin
    generalize hacc:dropL (l.take i) c f=acc at *
    by_cases d1:l[i].1=c
    ·subst d1
     by_cases d2:l[i].2.1=f
     ·skip
      rw [if_neg (by simp [d2] <;> omega),List.append_nil] at hst
      rcases hin with ⟨h0,hin⟩ | ⟨h0,hin⟩
      ·refine Zad names_ok mixed_ok fil.noOrc_ok aDq00 hin ?_ ?_
       ·simp [Zab,Zaa,Base.ev,SX.ev,evs,Value.oneCell',Zac,binPV,c0',c1',c2',c3',ix,ix1,ix2,v3,hlt,d2,lenL,one_rowL]
        all_goals omega
       ·intro qs a1' w1 hq h1
        refine ⟨fun _=>.inl ⟨rfl,l.length - (i+1),by omega,i+1,by omega,rfl,.inl ⟨by rw [hst];exact h0,?_⟩⟩,fun h=>absurd rfl h⟩
        simp [evs,SX.ev,binPV,v3] at hq
        subst hq
        exact h1
      ·refine Zad names_ok mixed_ok fil.noOrc_ok bDq00 hin ?_ ?_
       ·simp [Zab,Zaa,Base.ev,SX.ev,evs,Value.oneCell',Zac,binPV,c0',c1',c2',c3',ix,ix1,ix2,v3,hlt,d2,lenL,one_rowL]
        all_goals omega
       ·intro qs a1' w1 hq h1
        refine ⟨fun _=>.inl ⟨rfl,l.length - (i+1),by omega,i+1,by omega,rfl,.inr ⟨by rw [hst];exact h0,?_⟩⟩,fun h=>absurd rfl h⟩
        simp [evs,SX.ev,binPV,v3] at hq
        subst hq
        rw [hst]
        exact h1
     ·skip
      rw [if_pos (by simp [d2] <;> omega)] at hst
      have hne:acc++[l[i]] ≠ []:=by simp
      rcases hin with ⟨h0,hin⟩ | ⟨h0,hin⟩
      ·refine Zad names_ok mixed_ok fil.noOrc_ok aDq01 hin ?_ ?_
       ·simp [Zab,Zaa,Base.ev,SX.ev,evs,Value.oneCell',Zac,binPV,c0',c1',c2',c3',ix,ix1,ix2,v3,hlt,d2,lenL,one_rowL]
        all_goals omega
       ·intro qs a1' w1 hq h1
        refine ⟨fun _=>.inl ⟨rfl,l.length - (i+1),by omega,i+1,by omega,rfl,.inr ⟨by rw [hst];exact hne,?_⟩⟩,fun h=>absurd rfl h⟩
        simp [evs,SX.ev,binPV,v3,c0',c1',c2',c3',one_rowL] at hq
        subst hq
        rw [hst,h0]
        exact h1
      ·have rc:=r_catL acc l[i]
       refine Zad names_ok mixed_ok fil.noOrc_ok bDq01 hin ?_ ?_
       ·simp [Zab,Zaa,Base.ev,SX.ev,evs,Value.oneCell',Zac,binPV,c0',c1',c2',c3',ix,ix1,ix2,v3,hlt,d2,lenL,rc]
        all_goals first | omega | exact ⟨⟨acc.length+1,by omega,by omega⟩,acc.length+1,by omega⟩
       ·intro qs a1' w1 hq h1
        refine ⟨fun _=>.inl ⟨rfl,l.length - (i+1),by omega,i+1,by omega,rfl,.inr ⟨by rw [hst];exact hne,?_⟩⟩,fun h=>absurd rfl h⟩
        simp [evs,SX.ev,binPV,v3,c0',c1',c2',c3',rc] at hq
        subst hq
        rw [hst]
        exact h1
    ·skip
     rw [if_pos (by simp [d1] <;> omega)] at hst
     have hne:acc++[l[i]] ≠ []:=by simp
     rcases hin with ⟨h0,hin⟩ | ⟨h0,hin⟩
     ·refine Zad names_ok mixed_ok fil.noOrc_ok aDq1 hin ?_ ?_
      ·simp [Zab,Zaa,Base.ev,SX.ev,evs,Value.oneCell',Zac,binPV,c0',c1',c2',c3',ix,ix1,ix2,v3,hlt,d1,lenL,one_rowL]
       all_goals omega
      ·intro qs a1' w1 hq h1
       refine ⟨fun _=>.inl ⟨rfl,l.length - (i+1),by omega,i+1,by omega,rfl,.inr ⟨by rw [hst];exact hne,?_⟩⟩,fun h=>absurd rfl h⟩
       simp [evs,SX.ev,binPV,v3,c0',c1',c2',c3',one_rowL] at hq
       subst hq
       rw [hst,h0]
       exact h1
     ·have rc:=r_catL acc l[i]
      refine Zad names_ok mixed_ok fil.noOrc_ok bDq1 hin ?_ ?_
      ·simp [Zab,Zaa,Base.ev,SX.ev,evs,Value.oneCell',Zac,binPV,c0',c1',c2',c3',ix,ix1,ix2,v3,hlt,d1,lenL,rc]
       all_goals first | omega | exact ⟨⟨acc.length+1,by omega,by omega⟩,acc.length+1,by omega⟩
      ·intro qs a1' w1 hq h1
       refine ⟨fun _=>.inl ⟨rfl,l.length - (i+1),by omega,i+1,by omega,rfl,.inr ⟨by rw [hst];exact hne,?_⟩⟩,fun h=>absurd rfl h⟩
       simp [evs,SX.ev,binPV,v3,c0',c1',c2',c3',rc] at hq
       subst hq
       rw [hst]
       exact h1
   ·have hie:i=l.length:=by omega
    subst hie
    rw [InDq,List.take_length] at hin
    rcases hin with ⟨h0,hin⟩ | ⟨h0,hin⟩
    ·refine Zad names_ok mixed_ok fil.noOrc_ok exADq hin ?_ ?_
     ·simp [Base.ev,SX.ev,evs,Value.oneCell',binPV,lenL]
     ·intro qs a1' w1 hq h1
      simp [evs,SX.ev] at hq
      subst hq
      refine ⟨nofun,fun _=>.inr (.inl ⟨by rw [show Zaf (nth flDq 3)=0 by kernel_rfl];rfl,?_⟩)⟩
      rw [<- List.append_nil (flDq.drop 4)]
      refine Zad names_ok mixed_ok fil.noOrc_ok postADq h1 (by simp) ?_
      intro qs a2 w2 hq h2
      simp [evs] at hq
      subst hq
      refine ⟨nofun,fun _=>⟨.inr rfl,shRADq,[],[.lit 0 []],[],h2,by kernel_rfl,?_,fun i hi=>by simp at hi⟩⟩
      rw [h0];rfl
    ·refine Zad names_ok mixed_ok fil.noOrc_ok exBDq hin ?_ ?_
     ·simp [Base.ev,SX.ev,evs,Value.oneCell',binPV,lenL]
     ·intro qs a1' w1 hq h1
      simp [evs,SX.ev] at hq
      subst hq
      refine ⟨nofun,fun _=>.inr (.inl ⟨by rw [show Zaf (nth flDq 3)=0 by kernel_rfl];rfl,?_⟩)⟩
      rw [<- List.append_nil (flDq.drop 4)]
      refine Zad names_ok mixed_ok fil.noOrc_ok postBDq h1 ?_ ?_
      ·simp [Base.ev,SX.ev,evs,Value.oneCell',lenL]
      intro qs a2 w2 hq h2
      simp [evs,SX.ev] at hq
      subst hq
      refine ⟨nofun,fun _=>⟨.inr rfl,shRBDq,_,[.var 0],[0],h2,by kernel_rfl,by simp [evs,SX.ev],fun i hi=>?_⟩⟩
      simp at hi
      subst hi
      cases hd:dropL l c f with
      | nil=>exact absurd hd h0
      | cons z r=>exact ⟨r.length,_,rfl⟩
def EDqr (k:Nat):FnE:={ EDq k with kinds:=[.row] }
theorem Zny (k:Nat):ToldF 28 (EDqr k) (spec RDq):=wdp.told_row (toldDq k) rfl rfl rfl rfl
@[simp] theorem kDq (k:Nat):(EDq k).k=k:=rfl
@[simp] theorem kDqr (k:Nat):(EDqr k).k=k:=rfl
def RPq (ps qs:List PV):Prop:=∃ (l:List LeM) (t:Int),l.length<=1000000/\ps=[pRow encL l,pI t]/\qs=[pRow encL (pruneL l t)]
theorem fPq:∀ ps q1 q2,RPq ps q1->RPq ps q2->q1=q2:=by
 rintro ps q1 q2 ⟨l,t,_,rfl,rfl⟩ ⟨l',t',_,h,rfl⟩
 simp only [List.cons.injEq,PV.v.injEq,Value.int.injEq,true_and,and_true] at h
 obtain ⟨h,rfl⟩:=h
 rw [fil.pRow_inj Zar h]
theorem cutPq:flPq=flPq.take 3++.block (Zaf (nth flPq 3)) (.loop (Zah (nth flPq 3))) :: flPq.drop 4:=by kernel_rfl
def InPq (C:Base) (l:List LeM) (t:Int) (i:Nat) (a:Act) (w:World):Prop :=
 (pruneL (l.take i) t=[]/\Zag C shAPq [pRow encL l,pI t,pI (i:Int)] a w) ∨
 (pruneL (l.take i) t ≠ []/\Zag C shBPq [pRow encL l,pI t,pI (i:Int),pRow encL (pruneL (l.take i) t)] a w)
set_option maxHeartbeats 4000000 in
theorem toldPq (k:Nat):ToldF 35 (EPq k) (spec RPq):=by
 refine Zmc (fun _ _=>none) _ (Za1 Try.prog 35) Try.func35 (by kernel_rfl) shPq (by kernel_rfl) ?_ ?_
 ·intro ps qs h
  obtain ⟨l,t,_,rfl,rfl⟩:=Zal h
  exact Zb3 rfl
 ·intro C ps qs hF h a w hsh
  obtain ⟨l,t,hl,rfl,rfl⟩:=Zal h
  show wpL Try.prog flPq _ a w
  rw [cutPq]
  refine Zad names_ok mixed_ok fil.noOrc_ok prePq hsh ?_ ?_
  ·simp [Base.ev,SX.ev,evs,Value.oneCell',Zac]
  ·intro qs a1' w1 hq h1
   refine ⟨fun _=>?_,fun h=>absurd rfl h⟩
   simp [evs,SX.ev,Zac] at hq
   subst hq
   refine Zas (fun n a w=>∃ i,i<=l.length/\n=l.length - i/\InPq C l t i a w) ?_ (n:=l.length) ⟨0,by omega,by omega,.inl ⟨by simp [pruneL],h1⟩⟩
   rintro n a w ⟨i,hi,rfl,hin⟩
   show wpL Try.prog lpPq _ a w
   rw [<- List.append_nil lpPq]
   have hdl:(pruneL l t).length<=l.length:=List.length_filter_le _ _
   by_cases hlt:i < l.length
   ·obtain ⟨c0',c1',c2',c3'⟩:=cellL l i hlt
    have ix:=Zan encL l i 4 4 .i64 rfl hlt (by decide)
    have ix1:=Zan encL l i 4 1 .i64 rfl hlt (by decide)
    have ix2:=Zan encL l i 4 2 .i64 rfl hlt (by decide)
    have v3:IntKind.i64.wrap ((i:Int)+1)=(i:Int)+1:=wrapI _ (by omega) (by omega)
    have hst:pruneL (l.take (i+1)) t=pruneL (l.take i) t++(if (fun x:LeM=>!decide (x.2.2.2<=t)) l[i]=true then [l[i]] else []):=filt_step hlt _
    have hal:(pruneL (l.take i) t).length<=(l.take i).length:=List.length_filter_le _ _
    rw [List.length_take,Nat.min_eq_left (by omega)] at hal
    unfold InPq at hin
    generalize hacc:pruneL (l.take i) t=acc at *
    by_cases d1:l[i].2.2.2<=t
    ·have d1':¬ (t < l[i].2.2.2):=by omega
     rw [if_neg (by simp [d1,d1'] <;> omega),List.append_nil] at hst
     rcases hin with ⟨h0,hin⟩ | ⟨h0,hin⟩
     ·refine Zad names_ok mixed_ok fil.noOrc_ok aPq0 hin ?_ ?_
      ·simp [Zab,Zaa,Base.ev,SX.ev,evs,Value.oneCell',Zac,binPV,c0',c1',c2',c3',ix,ix1,ix2,v3,hlt,d1,d1',lenL,one_rowL]
       all_goals omega
      ·intro qs a1' w1 hq h1
       refine ⟨fun _=>.inl ⟨rfl,l.length - (i+1),by omega,i+1,by omega,rfl,.inl ⟨by rw [hst];exact h0,?_⟩⟩,fun h=>absurd rfl h⟩
       simp [evs,SX.ev,binPV,v3] at hq
       subst hq
       exact h1
     ·refine Zad names_ok mixed_ok fil.noOrc_ok bPq0 hin ?_ ?_
      ·simp [Zab,Zaa,Base.ev,SX.ev,evs,Value.oneCell',Zac,binPV,c0',c1',c2',c3',ix,ix1,ix2,v3,hlt,d1,d1',lenL,one_rowL]
       all_goals omega
      ·intro qs a1' w1 hq h1
       refine ⟨fun _=>.inl ⟨rfl,l.length - (i+1),by omega,i+1,by omega,rfl,.inr ⟨by rw [hst];exact h0,?_⟩⟩,fun h=>absurd rfl h⟩
       simp [evs,SX.ev,binPV,v3] at hq
       subst hq
       rw [hst]
       exact h1
    ·have d1':t < l[i].2.2.2:=by omega
     rw [if_pos (by simp [d1,d1'] <;> omega)] at hst
     have hne:acc++[l[i]] ≠ []:=by simp
     rcases hin with ⟨h0,hin⟩ | ⟨h0,hin⟩
     ·refine Zad names_ok mixed_ok fil.noOrc_ok aPq1 hin ?_ ?_
      ·simp [Zab,Zaa,Base.ev,SX.ev,evs,Value.oneCell',Zac,binPV,c0',c1',c2',c3',ix,ix1,ix2,v3,hlt,d1,d1',lenL,one_rowL]
       all_goals omega
      ·intro qs a1' w1 hq h1
       refine ⟨fun _=>.inl ⟨rfl,l.length - (i+1),by omega,i+1,by omega,rfl,.inr ⟨by rw [hst];exact hne,?_⟩⟩,fun h=>absurd rfl h⟩
       simp [evs,SX.ev,binPV,v3,c0',c1',c2',c3',one_rowL] at hq
       subst hq
       rw [hst,h0]
       exact h1
     ·have rc:=r_catL acc l[i]
      refine Zad names_ok mixed_ok fil.noOrc_ok bPq1 hin ?_ ?_
      ·simp [Zab,Zaa,Base.ev,SX.ev,evs,Value.oneCell',Zac,binPV,c0',c1',c2',c3',ix,ix1,ix2,v3,hlt,d1,d1',lenL,rc]
       all_goals first | omega | exact ⟨⟨acc.length+1,by omega,by omega⟩,acc.length+1,by omega⟩
      ·intro qs a1' w1 hq h1
       refine ⟨fun _=>.inl ⟨rfl,l.length - (i+1),by omega,i+1,by omega,rfl,.inr ⟨by rw [hst];exact hne,?_⟩⟩,fun h=>absurd rfl h⟩
       simp [evs,SX.ev,binPV,v3,c0',c1',c2',c3',rc] at hq
       subst hq
       rw [hst]
       exact h1
   ·have hie:i=l.length:=by omega
    subst hie
    rw [InPq,List.take_length] at hin
    rcases hin with ⟨h0,hin⟩ | ⟨h0,hin⟩
    ·refine Zad names_ok mixed_ok fil.noOrc_ok exAPq hin ?_ ?_
     ·simp [Base.ev,SX.ev,evs,Value.oneCell',binPV,lenL]
     ·intro qs a1' w1 hq h1
      simp [evs,SX.ev] at hq
      subst hq
      refine ⟨nofun,fun _=>.inr (.inl ⟨by rw [show Zaf (nth flPq 3)=0 by kernel_rfl];rfl,?_⟩)⟩
      rw [<- List.append_nil (flPq.drop 4)]
      refine Zad names_ok mixed_ok fil.noOrc_ok postAPq h1 (by simp) ?_
      intro qs a2 w2 hq h2
      simp [evs] at hq
      subst hq
      refine ⟨nofun,fun _=>⟨.inr rfl,shRAPq,[],[.lit 0 []],[],h2,by kernel_rfl,?_,fun i hi=>by simp at hi⟩⟩
      rw [h0];rfl
    ·refine Zad names_ok mixed_ok fil.noOrc_ok exBPq hin ?_ ?_
     ·simp [Base.ev,SX.ev,evs,Value.oneCell',binPV,lenL]
     ·intro qs a1' w1 hq h1
      simp [evs,SX.ev] at hq
      subst hq
      refine ⟨nofun,fun _=>.inr (.inl ⟨by rw [show Zaf (nth flPq 3)=0 by kernel_rfl];rfl,?_⟩)⟩
      rw [<- List.append_nil (flPq.drop 4)]
      refine Zad names_ok mixed_ok fil.noOrc_ok postBPq h1 ?_ ?_
      ·simp [Base.ev,SX.ev,evs,Value.oneCell',lenL]
      intro qs a2 w2 hq h2
      simp [evs,SX.ev] at hq
      subst hq
      refine ⟨nofun,fun _=>⟨.inr rfl,shRBPq,_,[.var 0],[0],h2,by kernel_rfl,by simp [evs,SX.ev],fun i hi=>?_⟩⟩
      simp at hi
      subst hi
      cases hd:pruneL l t with
      | nil=>exact absurd hd h0
      | cons z r=>exact ⟨r.length,_,rfl⟩
def EPqr (k:Nat):FnE:={ EPq k with kinds:=[.row] }
theorem Zmd (k:Nat):ToldF 35 (EPqr k) (spec RPq):=wdp.told_row (toldPq k) rfl rfl rfl rfl
@[simp] theorem kPq (k:Nat):(EPq k).k=k:=rfl
@[simp] theorem kPqr (k:Nat):(EPqr k).k=k:=rfl
end Go.Proofs.Ytcaclmdkhffegaa.ldp
