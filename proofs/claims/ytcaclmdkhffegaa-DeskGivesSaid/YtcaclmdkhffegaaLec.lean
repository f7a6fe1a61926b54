/- Leases: package lease's Grant and Clash, told. -/
import Derived.Test.YtcaclmdkhffegaaLgn
namespace Go.Proofs.Ytcaclmdkhffegaa.lec
open Go Go.RowKit eng SX Fact fil lem lea lho lhp lhd leb lgw lgn
set_option linter.unusedVariables false
set_option linter.unusedSimpArgs false
set_option maxRecDepth 1000000
def isApp:Op->Bool | .call { callee:=.builtin .append,.. }=>true | _=>false
def hApp (_:FuncId) (o:Oper):Option Hint:=cond (isApp o.op) (some .own) none
def EGr (k:Nat):FnE:={ k:=k,ins:=[none,some 4],leaks:=[false,false,false,false,false],outs:=[none],kinds:=[.row] }
def ECl (k:Nat):FnE:={ k:=k,ins:=[none,none,none,none,none],leaks:=[false,false,false,false,false],outs:=[none],kinds:=[.row] }
noncomputable def flC:=flat (Za1 Try.prog 62)
noncomputable def lpC:=flat (Zah (nth flC 3))
def bint (k:Nat):BoxT:=⟨3,1,true,[],some k,false⟩
def shC:Shape:=⟨[(0,.leaf),(1,.leaf),(2,.leaf),(3,.leaf),(4,.leaf)],[],[some false,none,none,none,none],44,62⟩
def shA:Shape:=⟨[(1,.leaf),(2,.leaf),(3,.leaf),(4,.leaf),(11,.nil),(14,.leaf),(15,.leaf),(16,.leaf)],[],[none,none,none,none,some false,none,none],44,62⟩
def shB:Shape:=⟨[(1,.leaf),(2,.leaf),(3,.leaf),(4,.leaf),(11,.own 0 7 1),(14,.leaf),(15,.leaf),(16,.leaf)],[bint 7],[none,none,none,none,some false,none,none],44,62⟩
def shRA:Shape:=⟨[(10,.nil)],[],[],44,62⟩
def shRB:Shape:=⟨[(10,.own 0 0 1)],[bint 0],[],44,62⟩
@[simp] def zLec1:SX:=.bin .add (.var 6) (.con (.int .i64 1))
@[simp] def zLec2:SX:=.cell (.var 4) (.var 6) 4 0
@[simp] def zLec3:SX:=.bin .eql (.cell (.var 4) (.var 6) 4 1) (.var 2)
@[simp] def zLec4:SX:=.cell (.var 4) (.var 6) 4 2
@[simp] def zLec5:SX:=.bin .leq (.cell (.var 4) (.var 6) 4 3) (.var 0)
@[simp] def zLec6:SX:=.bin .lss (.var 6) (.var 5)
@[simp] def zLec7:Fact:=.idx (.var 4) (.var 6) 4 4
@[simp] def zLec8:SX:=.bin .neq zLec4 (.con (.int .i64 0))
@[simp] def zLec9:SX:=.bin .neq zLec2 (.var 1)
@[simp] def Zec:Fact:=.ok (.cell (.var 4) (.var 6) 4 1)
@[simp] def Zeb:Fact:=.ok (.cell (.var 4) (.var 6) 4 3)
@[simp] def Zhf:SX:=.bin .eql zLec4 (.con (.int .i64 2))
@[simp] def Zhe:Fact:=same (.len (.var 7)) (.len (.var 7))
@[simp] def Ziu:SX:=.bin .eql (.var 3) (.con (.int .i64 2))
@[simp] def Zna:List SX:=[.var 0,.var 1,.var 2,.var 3,.var 4,.var 5,zLec1,.var 7]
@[simp] def Zjy:SX:=rop ROp.cat [.var 7,.lit 1 [zLec2]]
@[simp] def Zea:Fact:=.is zLec6 (.bool true)
@[simp] def Zm9:List SX:=[.var 0,.var 1,.var 2,.var 3,.var 4,.var 5,zLec1]
@[simp] def Zfg:Fact:=.is zLec3 (.bool true)
@[simp] def Zgo:Fact:=.is zLec9 (.bool true)
@[simp] def Zit:Fact:=.is zLec5 (.bool false)
@[simp] def Zis:SX:=.len (.lit 1 [zLec2])
@[simp] def Zc5:Fact:=.ok (.var 1)
@[simp] def Zc4:Fact:=.ok (.var 2)
@[simp] def Zc3:Fact:=.ok (.var 3)
@[simp] def Zdf:Fact:=.ok (.var 0)
@[simp] def Zde:Fact:=.ok (.var 5)
@[simp] def Zbj:Fact:=.ok zLec1
@[simp] def Zlb:Fact:=.is zLec8 (.bool true)
@[simp] def zLec30:List SX:=[.var 0,.var 1,.var 2,.var 3,.var 4,.var 5,zLec1,.lit 1 [zLec2]]
@[simp] def zLec31:List SX:=[.var 0,.var 1,.var 2,.var 3,.var 4,.var 5,zLec1,Zjy]
@[simp] def Zow:Fact:=.is Zhf (.bool false)
theorem pre:segTo Try.prog fil.noOrc 10000 (flC.take 3) shC [] shA [] hApp=some (.normal,[.ok (.len (.var 0)),Zc5,Zc4,Zc3,.ok (.var 4),.ok (.len (.var 0)),.ok (.con (.int .i64 0))],[.var 1,.var 2,.var 3,.var 4,.var 0,.len (.var 0),.con (.int .i64 0)]):=by kernel_rfl
theorem exA:segTo Try.prog fil.noOrc 10000 lpC shA [0] shA [] hApp=some (.exit 0,[.ok zLec6,.is zLec6 (.bool false),Zdf,Zc5,Zc4,Zc3,Zde,.ok (.var 6)],[.var 0,.var 1,.var 2,.var 3,.var 4,.var 5,.var 6]):=by kernel_rfl
theorem exB:segTo Try.prog fil.noOrc 10000 lpC shB [0] shB [(0,0)] hApp=some (.exit 0,[.ok zLec6,.is zLec6 (.bool false),Zdf,Zc5,Zc4,Zc3,Zde,.ok (.var 6),Zhe],[.var 0,.var 1,.var 2,.var 3,.var 4,.var 5,.var 6,.var 7]):=by kernel_rfl
theorem ra0:segTo Try.prog fil.noOrc 10000 lpC shA [1,0] shA [] hApp=some (.normal,[.ok zLec6,Zea,zLec7,zLec7,.ok zLec2,Zec,.ok zLec4,Zeb,.ok zLec3,.is zLec3 (.bool false),Zbj,Zdf,Zc5,Zc4,Zc3,Zde,Zbj],Zm9):=by kernel_rfl
theorem ra1:segTo Try.prog fil.noOrc 10000 lpC shA [1,1,0] shA [] hApp=some (.normal,[.ok zLec6,Zea,zLec7,zLec7,.ok zLec2,Zec,.ok zLec4,Zeb,.ok zLec3,Zfg,.ok zLec9,.is zLec9 (.bool false),Zbj,Zdf,Zc5,Zc4,Zc3,Zde,Zbj],Zm9):=by kernel_rfl
theorem ra2:segTo Try.prog fil.noOrc 10000 lpC shA [1,1,1,1] shA [] hApp=some (.normal,[.ok zLec6,Zea,zLec7,zLec7,.ok zLec2,Zec,.ok zLec4,Zeb,.ok zLec3,Zfg,.ok zLec9,Zgo,.ok zLec5,.is zLec5 (.bool true),Zbj,Zdf,Zc5,Zc4,Zc3,Zde,Zbj],Zm9):=by kernel_rfl
theorem ra3:segTo Try.prog fil.noOrc 10000 lpC shA [1,1,1,0,0] shA [] hApp=some (.normal,[.ok zLec6,Zea,zLec7,zLec7,.ok zLec2,Zec,.ok zLec4,Zeb,.ok zLec3,Zfg,.ok zLec9,Zgo,.ok zLec5,Zit,.ok zLec8,.is zLec8 (.bool false),Zbj,Zdf,Zc5,Zc4,Zc3,Zde,Zbj],Zm9):=by kernel_rfl
theorem ra4:segTo Try.prog fil.noOrc 10000 lpC shA [1,1,1,0,1,0,0] shA [] hApp=some (.normal,[.ok zLec6,Zea,zLec7,zLec7,.ok zLec2,Zec,.ok zLec4,Zeb,.ok zLec3,Zfg,.ok zLec9,Zgo,.ok zLec5,Zit,.ok zLec8,Zlb,.ok Zhf,Zow,.ok Ziu,.is Ziu (.bool false),Zbj,Zdf,Zc5,Zc4,Zc3,Zde,Zbj],Zm9):=by kernel_rfl
theorem ra5:segTo Try.prog fil.noOrc 10000 lpC shA [1,1,1,0,1,1] shB [(5,0)] hApp=some (.normal,[.ok zLec6,Zea,zLec7,zLec7,.ok zLec2,Zec,.ok zLec4,Zeb,.ok zLec3,Zfg,.ok zLec9,Zgo,.ok zLec5,Zit,.ok zLec8,Zlb,.ok Zhf,.is Zhf (.bool true),rng (.con (.int .i64 0)) Zis,upto Zis 4294967296,Zbj,Zdf,Zc5,Zc4,Zc3,Zde,Zbj,same Zis Zis],zLec30):=by kernel_rfl
theorem ra6:segTo Try.prog fil.noOrc 10000 lpC shA [1,1,1,0,1,0,1] shB [(5,0)] hApp=some (.normal,[.ok zLec6,Zea,zLec7,zLec7,.ok zLec2,Zec,.ok zLec4,Zeb,.ok zLec3,Zfg,.ok zLec9,Zgo,.ok zLec5,Zit,.ok zLec8,Zlb,.ok Zhf,Zow,.ok Ziu,.is Ziu (.bool true),rng (.con (.int .i64 0)) Zis,upto Zis 4294967296,Zbj,Zdf,Zc5,Zc4,Zc3,Zde,Zbj,same Zis Zis],zLec30):=by kernel_rfl
theorem rb0:segTo Try.prog fil.noOrc 10000 lpC shB [1,0] shB [(0,0)] hApp=some (.normal,[.ok zLec6,Zea,zLec7,zLec7,.ok zLec2,Zec,.ok zLec4,Zeb,.ok zLec3,.is zLec3 (.bool false),Zbj,Zdf,Zc5,Zc4,Zc3,Zde,Zbj,Zhe],Zna):=by kernel_rfl
theorem rb1:segTo Try.prog fil.noOrc 10000 lpC shB [1,1,0] shB [(0,0)] hApp=some (.normal,[.ok zLec6,Zea,zLec7,zLec7,.ok zLec2,Zec,.ok zLec4,Zeb,.ok zLec3,Zfg,.ok zLec9,.is zLec9 (.bool false),Zbj,Zdf,Zc5,Zc4,Zc3,Zde,Zbj,Zhe],Zna):=by kernel_rfl
theorem rb2:segTo Try.prog fil.noOrc 10000 lpC shB [1,1,1,1] shB [(0,0)] hApp=some (.normal,[.ok zLec6,Zea,zLec7,zLec7,.ok zLec2,Zec,.ok zLec4,Zeb,.ok zLec3,Zfg,.ok zLec9,Zgo,.ok zLec5,.is zLec5 (.bool true),Zbj,Zdf,Zc5,Zc4,Zc3,Zde,Zbj,Zhe],Zna):=by kernel_rfl
theorem rb3:segTo Try.prog fil.noOrc 10000 lpC shB [1,1,1,0,0] shB [(0,0)] hApp=some (.normal,[.ok zLec6,Zea,zLec7,zLec7,.ok zLec2,Zec,.ok zLec4,Zeb,.ok zLec3,Zfg,.ok zLec9,Zgo,.ok zLec5,Zit,.ok zLec8,.is zLec8 (.bool false),Zbj,Zdf,Zc5,Zc4,Zc3,Zde,Zbj,Zhe],Zna):=by kernel_rfl
theorem rb4:segTo Try.prog fil.noOrc 10000 lpC shB [1,1,1,0,1,0,0] shB [(0,0)] hApp=some (.normal,[.ok zLec6,Zea,zLec7,zLec7,.ok zLec2,Zec,.ok zLec4,Zeb,.ok zLec3,Zfg,.ok zLec9,Zgo,.ok zLec5,Zit,.ok zLec8,Zlb,.ok Zhf,Zow,.ok Ziu,.is Ziu (.bool false),Zbj,Zdf,Zc5,Zc4,Zc3,Zde,Zbj,Zhe],Zna):=by kernel_rfl
theorem rb5:segTo Try.prog fil.noOrc 10000 lpC shB [1,1,1,0,1,1] shB [(0,1)] hApp=some (.normal,[.ok zLec6,Zea,zLec7,zLec7,.ok zLec2,Zec,.ok zLec4,Zeb,.ok zLec3,Zfg,.ok zLec9,Zgo,.ok zLec5,Zit,.ok zLec8,Zlb,.ok Zhf,.is Zhf (.bool true),Zhe,upto (.len Zjy) 4294967296,Zbj,Zdf,Zc5,Zc4,Zc3,Zde,Zbj,same (.len Zjy) (.len Zjy)],zLec31):=by kernel_rfl
theorem rb6:segTo Try.prog fil.noOrc 10000 lpC shB [1,1,1,0,1,0,1] shB [(0,1)] hApp=some (.normal,[.ok zLec6,Zea,zLec7,zLec7,.ok zLec2,Zec,.ok zLec4,Zeb,.ok zLec3,Zfg,.ok zLec9,Zgo,.ok zLec5,Zit,.ok zLec8,Zlb,.ok Zhf,Zow,.ok Ziu,.is Ziu (.bool true),Zhe,upto (.len Zjy) 4294967296,Zbj,Zdf,Zc5,Zc4,Zc3,Zde,Zbj,same (.len Zjy) (.len Zjy)],zLec31):=by kernel_rfl
theorem postA:segTo Try.prog fil.noOrc 10000 (flC.drop 4) shA [] shRA [] hApp=some (.ret,[],[]):=by kernel_rfl
theorem postB:segTo Try.prog fil.noOrc 10000 (flC.drop 4) shB [] shRB [(0,0)] hApp=some (.ret,[Zhe],[.var 7]):=by kernel_rfl

def encN:Enc Int:={ sz:=1,enc:=fun z=>[.int .i64 z],len:=fun _=>rfl,one:=fun _ u hu=>by simp at hu;subst hu;rfl,pos:=by decide }
def heldL (x:LeM) (now:Int):Int:=if x.2.2.2<=now then 0 else x.2.2.1
def barsL (h m:Int):Bool:=!(h == 0) && (h == 2 || m == 2)
def isC (now c f m:Int) (x:LeM):Bool:=x.2.1 == f && (!(x.1 == c) && barsL (heldL x now) m)
def Zbm (l:List LeM) (now c f m:Int):List Int:=(l.filter (isC now c f m)).map (·.1)
theorem clash_len (l:List LeM) (now c f m:Int):(Zbm l now c f m).length<=l.length:=by
 rw [Zbm,List.length_map];exact List.length_filter_le _ _
theorem clash_step {l:List LeM} {i:Nat} (h:i < l.length) (now c f m:Int):Zbm (l.take (i+1)) now c f m=Zbm (l.take i) now c f m++(if isC now c f m l[i]=true then [l[i].1] else []):=by
 rw [Zbm,List.take_add_one,List.getElem?_eq_getElem h,List.filter_append,List.map_append]
 simp only [Option.toList_some,List.filter_cons,List.filter_nil,Zbm]
 split <;> simp_all
theorem Zcg (acc:List Int) (z:Int):ropPV .cat [pRow encN acc,.row 1 [pI z]]=some (pRow encN (acc++[z])):=by simp [ropPV,pRow,Enc.all,encN]
theorem Zbh (z:Int):PV.row 1 [pI z]=pRow encN [z]:=by simp [pRow,Enc.all,encN]
theorem lenN (xs:List Int):lenPV (pRow encN xs)=some (pI (xs.length:Int)):=rfl
def RCl (ps qs:List PV):Prop:=∃ (l:List LeM) (now c f m:Int),l.length<=1000000/\ps=[pRow encL l,pI now,pI c,pI f,pI m]/\qs=[pRow encN (Zbm l now c f m)]
theorem fCl:∀ ps q1 q2,RCl ps q1->RCl ps q2->q1=q2:=by
 rintro ps q1 q2 ⟨l,n,c,f,m,_,rfl,rfl⟩ ⟨l',n',c',f',m',_,h,rfl⟩
 simp only [List.cons.injEq,PV.v.injEq,Value.int.injEq,true_and,and_true] at h
 obtain ⟨h,rfl,rfl,rfl,rfl⟩:=h
 rw [fil.pRow_inj Zar h]
theorem cutC:flC=flC.take 3++.block (Zaf (nth flC 3)) (.loop (Zah (nth flC 3))) :: flC.drop 4:=by kernel_rfl
def InC (C:Base) (l:List LeM) (now c f m:Int) (i:Nat) (a:Act) (w:World):Prop :=
 (Zbm (l.take i) now c f m=[]/\Zag C shA [pI now,pI c,pI f,pI m,pRow encL l,pI (l.length:Int),pI (i:Int)] a w) ∨
 Zag C shB [pI now,pI c,pI f,pI m,pRow encL l,pI (l.length:Int),pI (i:Int),pRow encN (Zbm (l.take i) now c f m)] a w
set_option maxHeartbeats 4000000 in
theorem Zqy (k:Nat):ToldF 62 (ECl k) (spec RCl):=by
 refine Zcy (fun _ _=>none) _ (Za1 Try.prog 62) Try.func62 (by kernel_rfl) shC (by kernel_rfl) ?_ ?_
 ·intro ps qs h
  obtain ⟨l,now,c,f,m,_,rfl,rfl⟩:=Zal h
  exact Zb3 rfl
 ·intro C ps qs hF h a w hsh
  obtain ⟨l,now,c,f,m,hl,rfl,rfl⟩:=Zal h
  show wpL Try.prog flC _ a w
  rw [cutC]
  refine Zad names_ok mixed_ok fil.noOrc_ok pre hsh ?_ ?_
  ·simp [Base.ev,SX.ev,evs,Value.oneCell',Zac]
  ·intro qs a1 w1 hq h1
   refine ⟨fun _=>?_,fun h=>absurd rfl h⟩
   simp [evs,SX.ev,Zac] at hq
   subst hq
   refine Zas (fun n a w=>∃ i,i<=l.length/\n=l.length - i/\InC C l now c f m i a w) ?_ (n:=l.length) ⟨0,by omega,by omega,.inl ⟨by simp [Zbm],h1⟩⟩
   rintro n a w ⟨i,hi,rfl,hin⟩
   show wpL Try.prog lpC _ a w
   rw [<- List.append_nil lpC]
   by_cases hlt:i < l.length
   ·obtain ⟨c0',c1',c2',c3'⟩:=cellL l i hlt
    have ix:=Zan encL l i 4 4 .i64 rfl hlt (by decide)
    have v3:IntKind.i64.wrap ((i:Int)+1)=(i:Int)+1:=wrapI _ (by omega) (by omega)
    have hst:=clash_step hlt now c f m
    have hal:=clash_len (l.take i) now c f m
    rw [List.length_take,Nat.min_eq_left (by omega)] at hal
    have stay:isC now c f m l[i]=false->Zbm (l.take (i+1)) now c f m=Zbm (l.take i) now c f m:=fun h=>by rw [hst,h];simp
    have more:isC now c f m l[i]=true->Zbm (l.take (i+1)) now c f m=Zbm (l.take i) now c f m++[l[i].1]:=fun h=>by rw [hst,h];simp
    unfold InC at hin
    generalize hacc:Zbm (l.take i) now c f m=acc at *
    rcases hin with ⟨h0,hin⟩ | hin
    ·by_cases d1:l[i].2.1=f
     ·by_cases d2:l[i].1=c
      ·skip
       have hv:isC now c f m l[i]=false:=by simp [isC,barsL,heldL,d1,d2]
       refine Zad names_ok mixed_ok fil.noOrc_ok ra1 hin ?_ ?_
       ·simp [Zab,Zaa,Base.ev,SX.ev,evs,Value.oneCell',Zac,binPV,c0',c1',c2',c3',ix,v3,hlt,d1,d2,lenN,Zbh]
        all_goals omega
       ·intro qs a1 w1 hq h1
        refine ⟨fun _=>.inl ⟨rfl,l.length - (i+1),by omega,i+1,by omega,rfl,?_⟩,fun h=>absurd rfl h⟩
        simp [evs,SX.ev,binPV,v3,c0',lenN,Zbh] at hq
        subst hq
        exact .inl ⟨by rw [stay hv];exact h0,h1⟩
      by_cases d3:l[i].2.2.2<=now
      ·skip
       have hv:isC now c f m l[i]=false:=by simp [isC,barsL,heldL,d1,d2,d3]
       refine Zad names_ok mixed_ok fil.noOrc_ok ra2 hin ?_ ?_
       ·simp [Zab,Zaa,Base.ev,SX.ev,evs,Value.oneCell',Zac,binPV,c0',c1',c2',c3',ix,v3,hlt,d1,d2,d3,lenN,Zbh]
        all_goals omega
       ·intro qs a1 w1 hq h1
        refine ⟨fun _=>.inl ⟨rfl,l.length - (i+1),by omega,i+1,by omega,rfl,?_⟩,fun h=>absurd rfl h⟩
        simp [evs,SX.ev,binPV,v3,c0',lenN,Zbh] at hq
        subst hq
        exact .inl ⟨by rw [stay hv];exact h0,h1⟩
      by_cases d4:l[i].2.2.1=0
      ·skip
       have hv:isC now c f m l[i]=false:=by simp [isC,barsL,heldL,d1,d2,d3,d4]
       refine Zad names_ok mixed_ok fil.noOrc_ok ra3 hin ?_ ?_
       ·simp [Zab,Zaa,Base.ev,SX.ev,evs,Value.oneCell',Zac,binPV,c0',c1',c2',c3',ix,v3,hlt,d1,d2,d3,d4,lenN,Zbh]
        all_goals omega
       ·intro qs a1 w1 hq h1
        refine ⟨fun _=>.inl ⟨rfl,l.length - (i+1),by omega,i+1,by omega,rfl,?_⟩,fun h=>absurd rfl h⟩
        simp [evs,SX.ev,binPV,v3,c0',lenN,Zbh] at hq
        subst hq
        exact .inl ⟨by rw [stay hv];exact h0,h1⟩
      by_cases d5:l[i].2.2.1=2
      ·skip
       have hv:isC now c f m l[i]=true:=by simp [isC,barsL,heldL,d1,d2,d3,d4,d5]
       refine Zad names_ok mixed_ok fil.noOrc_ok ra5 hin ?_ ?_
       ·simp [Zab,Zaa,Base.ev,SX.ev,evs,Value.oneCell',Zac,binPV,c0',c1',c2',c3',ix,v3,hlt,d1,d2,d3,d4,d5,lenN,Zbh]
        all_goals omega
       ·intro qs a1 w1 hq h1
        refine ⟨fun _=>.inl ⟨rfl,l.length - (i+1),by omega,i+1,by omega,rfl,?_⟩,fun h=>absurd rfl h⟩
        simp [evs,SX.ev,binPV,v3,c0',lenN,Zbh] at hq
        subst hq
        exact .inr (by rw [more hv,h0];exact h1)
      by_cases d6:m=2
      ·skip
       have hv:isC now c f m l[i]=true:=by simp [isC,barsL,heldL,d1,d2,d3,d4,d5,d6]
       refine Zad names_ok mixed_ok fil.noOrc_ok ra6 hin ?_ ?_
       ·simp [Zab,Zaa,Base.ev,SX.ev,evs,Value.oneCell',Zac,binPV,c0',c1',c2',c3',ix,v3,hlt,d1,d2,d3,d4,d5,d6,lenN,Zbh]
        all_goals omega
       ·intro qs a1 w1 hq h1
        refine ⟨fun _=>.inl ⟨rfl,l.length - (i+1),by omega,i+1,by omega,rfl,?_⟩,fun h=>absurd rfl h⟩
        simp [evs,SX.ev,binPV,v3,c0',lenN,Zbh] at hq
        subst hq
        exact .inr (by rw [more hv,h0];exact h1)
      ·skip
       have hv:isC now c f m l[i]=false:=by simp [isC,barsL,heldL,d1,d2,d3,d4,d5,d6]
       refine Zad names_ok mixed_ok fil.noOrc_ok ra4 hin ?_ ?_
       ·simp [Zab,Zaa,Base.ev,SX.ev,evs,Value.oneCell',Zac,binPV,c0',c1',c2',c3',ix,v3,hlt,d1,d2,d3,d4,d5,d6,lenN,Zbh]
        all_goals omega
       ·intro qs a1 w1 hq h1
        refine ⟨fun _=>.inl ⟨rfl,l.length - (i+1),by omega,i+1,by omega,rfl,?_⟩,fun h=>absurd rfl h⟩
        simp [evs,SX.ev,binPV,v3,c0',lenN,Zbh] at hq
        subst hq
        exact .inl ⟨by rw [stay hv];exact h0,h1⟩
     ·skip
      have hv:isC now c f m l[i]=false:=by simp [isC,barsL,heldL,d1]
      refine Zad names_ok mixed_ok fil.noOrc_ok ra0 hin ?_ ?_
      ·simp [Zab,Zaa,Base.ev,SX.ev,evs,Value.oneCell',Zac,binPV,c0',c1',c2',c3',ix,v3,hlt,d1,lenN,Zbh]
       all_goals omega
      ·intro qs a1 w1 hq h1
       refine ⟨fun _=>.inl ⟨rfl,l.length - (i+1),by omega,i+1,by omega,rfl,?_⟩,fun h=>absurd rfl h⟩
       simp [evs,SX.ev,binPV,v3,c0',lenN,Zbh] at hq
       subst hq
       exact .inl ⟨by rw [stay hv];exact h0,h1⟩
    ·by_cases d1:l[i].2.1=f
     ·by_cases d2:l[i].1=c
      ·skip
       have hv:isC now c f m l[i]=false:=by simp [isC,barsL,heldL,d1,d2]
       refine Zad names_ok mixed_ok fil.noOrc_ok rb1 hin ?_ ?_
       ·simp [Zab,Zaa,Base.ev,SX.ev,evs,Value.oneCell',Zac,binPV,c0',c1',c2',c3',ix,v3,hlt,d1,d2,lenN,Zcg]
        all_goals omega
       ·intro qs a1 w1 hq h1
        refine ⟨fun _=>.inl ⟨rfl,l.length - (i+1),by omega,i+1,by omega,rfl,?_⟩,fun h=>absurd rfl h⟩
        simp [evs,SX.ev,binPV,v3,c0',lenN,Zcg] at hq
        subst hq
        exact .inr (by rw [stay hv];exact h1)
      by_cases d3:l[i].2.2.2<=now
      ·skip
       have hv:isC now c f m l[i]=false:=by simp [isC,barsL,heldL,d1,d2,d3]
       refine Zad names_ok mixed_ok fil.noOrc_ok rb2 hin ?_ ?_
       ·simp [Zab,Zaa,Base.ev,SX.ev,evs,Value.oneCell',Zac,binPV,c0',c1',c2',c3',ix,v3,hlt,d1,d2,d3,lenN,Zcg]
        all_goals omega
       ·intro qs a1 w1 hq h1
        refine ⟨fun _=>.inl ⟨rfl,l.length - (i+1),by omega,i+1,by omega,rfl,?_⟩,fun h=>absurd rfl h⟩
        simp [evs,SX.ev,binPV,v3,c0',lenN,Zcg] at hq
        subst hq
        exact .inr (by rw [stay hv];exact h1)
      by_cases d4:l[i].2.2.1=0
      ·skip
       have hv:isC now c f m l[i]=false:=by simp [isC,barsL,heldL,d1,d2,d3,d4]
       refine Zad names_ok mixed_ok fil.noOrc_ok rb3 hin ?_ ?_
       ·simp [Zab,Zaa,Base.ev,SX.ev,evs,Value.oneCell',Zac,binPV,c0',c1',c2',c3',ix,v3,hlt,d1,d2,d3,d4,lenN,Zcg]
        all_goals omega
       ·intro qs a1 w1 hq h1
        refine ⟨fun _=>.inl ⟨rfl,l.length - (i+1),by omega,i+1,by omega,rfl,?_⟩,fun h=>absurd rfl h⟩
        simp [evs,SX.ev,binPV,v3,c0',lenN,Zcg] at hq
        subst hq
        exact .inr (by rw [stay hv];exact h1)
      by_cases d5:l[i].2.2.1=2
      ·skip
       have hv:isC now c f m l[i]=true:=by simp [isC,barsL,heldL,d1,d2,d3,d4,d5]
       refine Zad names_ok mixed_ok fil.noOrc_ok rb5 hin ?_ ?_
       ·simp [Zab,Zaa,Base.ev,SX.ev,evs,Value.oneCell',Zac,binPV,c0',c1',c2',c3',ix,v3,hlt,d1,d2,d3,d4,d5,lenN,Zcg]
        all_goals first | omega | exact ⟨⟨acc.length+1,by omega,by omega⟩,acc.length+1,by omega⟩
       ·intro qs a1 w1 hq h1
        refine ⟨fun _=>.inl ⟨rfl,l.length - (i+1),by omega,i+1,by omega,rfl,?_⟩,fun h=>absurd rfl h⟩
        simp [evs,SX.ev,binPV,v3,c0',lenN,Zcg] at hq
        subst hq
        exact .inr (by rw [more hv];exact h1)
      by_cases d6:m=2
      ·skip
       have hv:isC now c f m l[i]=true:=by simp [isC,barsL,heldL,d1,d2,d3,d4,d5,d6]
       refine Zad names_ok mixed_ok fil.noOrc_ok rb6 hin ?_ ?_
       ·simp [Zab,Zaa,Base.ev,SX.ev,evs,Value.oneCell',Zac,binPV,c0',c1',c2',c3',ix,v3,hlt,d1,d2,d3,d4,d5,d6,lenN,Zcg]
        all_goals first | omega | exact ⟨⟨acc.length+1,by omega,by omega⟩,acc.length+1,by omega⟩
       ·intro qs a1 w1 hq h1
        refine ⟨fun _=>.inl ⟨rfl,l.length - (i+1),by omega,i+1,by omega,rfl,?_⟩,fun h=>absurd rfl h⟩
        simp [evs,SX.ev,binPV,v3,c0',lenN,Zcg] at hq
        subst hq
        exact .inr (by rw [more hv];exact h1)
      ·skip
       have hv:isC now c f m l[i]=false:=by simp [isC,barsL,heldL,d1,d2,d3,d4,d5,d6]
       refine Zad names_ok mixed_ok fil.noOrc_ok rb4 hin ?_ ?_
       ·simp [Zab,Zaa,Base.ev,SX.ev,evs,Value.oneCell',Zac,binPV,c0',c1',c2',c3',ix,v3,hlt,d1,d2,d3,d4,d5,d6,lenN,Zcg]
        all_goals omega
       ·intro qs a1 w1 hq h1
        refine ⟨fun _=>.inl ⟨rfl,l.length - (i+1),by omega,i+1,by omega,rfl,?_⟩,fun h=>absurd rfl h⟩
        simp [evs,SX.ev,binPV,v3,c0',lenN,Zcg] at hq
        subst hq
        exact .inr (by rw [stay hv];exact h1)
     ·skip
      have hv:isC now c f m l[i]=false:=by simp [isC,barsL,heldL,d1]
      refine Zad names_ok mixed_ok fil.noOrc_ok rb0 hin ?_ ?_
      ·simp [Zab,Zaa,Base.ev,SX.ev,evs,Value.oneCell',Zac,binPV,c0',c1',c2',c3',ix,v3,hlt,d1,lenN,Zcg]
       all_goals omega
      ·intro qs a1 w1 hq h1
       refine ⟨fun _=>.inl ⟨rfl,l.length - (i+1),by omega,i+1,by omega,rfl,?_⟩,fun h=>absurd rfl h⟩
       simp [evs,SX.ev,binPV,v3,c0',lenN,Zcg] at hq
       subst hq
       exact .inr (by rw [stay hv];exact h1)
   ·have hie:i=l.length:=by omega
    subst hie
    rw [InC,List.take_length] at hin
    rcases hin with ⟨h0,hin⟩ | hin
    ·refine Zad names_ok mixed_ok fil.noOrc_ok exA hin ?_ ?_
     ·simp [Base.ev,SX.ev,evs,Value.oneCell',binPV]
     ·intro qs a1 w1 hq h1
      simp [evs,SX.ev] at hq
      subst hq
      refine ⟨nofun,fun _=>.inr (.inl ⟨by rw [show Zaf (nth flC 3)=0 by kernel_rfl];rfl,?_⟩)⟩
      rw [<- List.append_nil (flC.drop 4)]
      refine Zad names_ok mixed_ok fil.noOrc_ok postA h1 (by simp) ?_
      intro qs a2 w2 hq h2
      simp [evs] at hq
      subst hq
      refine ⟨nofun,fun _=>⟨.inr rfl,shRA,[],[.lit 0 []],h2,by kernel_rfl,?_⟩⟩
      rw [h0];rfl
    ·refine Zad names_ok mixed_ok fil.noOrc_ok exB hin ?_ ?_
     ·have hal:=clash_len l now c f m
      simp [Base.ev,SX.ev,evs,Value.oneCell',binPV,lenN]
     ·intro qs a1 w1 hq h1
      simp [evs,SX.ev] at hq
      subst hq
      refine ⟨nofun,fun _=>.inr (.inl ⟨by rw [show Zaf (nth flC 3)=0 by kernel_rfl];rfl,?_⟩)⟩
      rw [<- List.append_nil (flC.drop 4)]
      refine Zad names_ok mixed_ok fil.noOrc_ok postB h1 ?_ ?_
      ·simp [Base.ev,SX.ev,evs,Value.oneCell',lenN]
      intro qs a2 w2 hq h2
      simp [evs,SX.ev] at hq
      subst hq
      exact ⟨nofun,fun _=>⟨.inr rfl,shRB,_,[.var 0],h2,by kernel_rfl,by simp [evs,SX.ev]⟩⟩
theorem grant_len (xs:List LeM) (x:LeM):(Zby xs x).length<=xs.length+1:=by
 unfold Zby
 split
 ·split
  ·simp
  ·simp;omega
 ·simp
def RGr (ps qs:List PV):Prop:=∃ (l:List LeM) (x:LeM),MayL l/\okL x/\l.length < 1000000/\ps=pRow encL l :: p4 x/\qs=[pRow encL (Zby l x)]
theorem fGr:∀ ps q1 q2,RGr ps q1->RGr ps q2->q1=q2:=by
 rintro ps q1 q2 ⟨l,x,_,_,_,rfl,rfl⟩ ⟨l',x',_,_,_,h,rfl⟩
 simp only [List.cons.injEq] at h
 obtain ⟨h,h2⟩:=h
 obtain rfl:=fil.pRow_inj Zar h
 rw [Zjh h2]
theorem Zqx (k:Nat):ToldF 55 (EGr k) (spec RGr):=by
 intro w FP us ps qs hsp hul hpl hFP hrd
 obtain ⟨l,x,hm,hx,hl,rfl,rfl⟩:=Zal hsp
 obtain ⟨u0,u1,u2,u3,u4,rfl⟩:∃ u0 u1 u2 u3 u4,us=[u0,u1,u2,u3,u4]:=by
  match us,hul with
  | [a,b,c,d,e],_=>exact ⟨a,b,c,d,e,rfl⟩
 have r0:=Zdx (hrd 0 _ u0 rfl rfl).1
 obtain rfl:=Zbe (hrd 1 (pI x.1) u1 rfl rfl).1
 obtain rfl:=Zbe (hrd 2 (pI x.2.1) u2 rfl rfl).1
 obtain rfl:=Zbe (hrd 3 (pI x.2.2.1) u3 rfl rfl).1
 obtain rfl:=Zbe (hrd 4 (pI x.2.2.2) u4 rfl rfl).1
 refine (grant_any x u0 l w r0 hm hx hl).mono ?_
 rintro e w' ⟨v,rfl,hown,hE⟩
 refine ⟨[v],fun _=>none,rfl,rfl,Zbk rfl,fun i q u hq hu w2 hw2=>?_,rfl,hE⟩
 match i,hq,hu with
 | 0,hq,hu =>
  simp at hq hu;subst hq;subst hu
  exact Zg2 (by have:=grant_len l x;omega) hown fun k hk=>hw2 k (.inr hk) (fun j _=>by simp)
 | i+1,hq,hu=>simp at hq
end Go.Proofs.Ytcaclmdkhffegaa.lec
