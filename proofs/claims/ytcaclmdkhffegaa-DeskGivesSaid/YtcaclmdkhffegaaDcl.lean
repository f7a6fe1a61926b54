/- Package desk, told: who is called. -/
import Derived.Test.YtcaclmdkhffegaaDdk
import Derived.Test.YtcaclmdkhffegaaDix
namespace Go.Proofs.Ytcaclmdkhffegaa.dcl
open Go Go.RowKit eng SX Fact fil lem lea dix
open lec (encN lenN)
open dkm (Desk clashW)
open ddk (ECh Zqz RCh fCh inDk okIn)
set_option linter.unusedVariables false
set_option linter.unusedSimpArgs false
set_option maxRecDepth 1000000
def hA (_:FuncId) (o:Oper):Option Hint:=match o.op with | .call { callee:=.builtin .append,.. }=>some .own | _=>none
def ECd (k:Nat):FnE:={ k:=k,ins:=[some 2,none],leaks:=[false,false,false],outs:=[none],kinds:=[.row] }
def tabK (f:FuncId):Option FnE:=cond (Nat.beq f 43) (some (ECh 1)) (cond (Nat.beq f 53) (some (ECn 2)) none)
noncomputable def flC:=flat (Za1 Try.prog 33)
noncomputable def lpC:=flat (Zah (nth flC 2))
noncomputable def bkC:=flat (Zbg (nth lpC 2))
noncomputable def lpK:=flat (Zah (nth bkC 2))
def dbox:BoxT:=⟨30,0,false,[.leaf,.leaf],none,false⟩
def wbox:BoxT:=⟨25,0,false,[.leaf,.leaf,.leaf,.leaf],none,false⟩
def bpair (k:Nat):BoxT:=⟨41,2,true,[],some k,false⟩
def shC:Shape:=⟨[(0,.agg 2),(1,.leaf)],[],[some false,some false,none],41,33⟩
def shN:Shape:=⟨[(1,.leaf),(2,.ptr 0 0 0 0),(4,.nil),(11,.leaf),(12,.leaf),(13,.leaf)],[dbox],[none,some false,none,none,some false,some false],41,33⟩
def shO:Shape:=⟨[(1,.leaf),(2,.ptr 0 0 0 0),(4,.own 1 6 2),(11,.leaf),(12,.leaf),(13,.leaf)],[dbox,bpair 6],[none,some false,none,none,some false,some false],41,33⟩
def shKN:Shape:=⟨[(1,.leaf),(2,.ptr 0 0 0 0),(4,.nil),(6,.ptr 1 0 0 0),(11,.leaf),(12,.leaf),(13,.leaf),(20,.leaf),(21,.leaf),(22,.leaf)],[dbox,wbox],[none,some false,none,none,some false,none,none,some false,some false,none,none,none,none],41,33⟩
def shKO:Shape:=⟨[(1,.leaf),(2,.ptr 0 0 0 0),(4,.own 2 13 2),(6,.ptr 1 0 0 0),(11,.leaf),(12,.leaf),(13,.leaf),(20,.leaf),(21,.leaf),(22,.leaf)],[dbox,wbox,bpair 13],[none,some false,none,none,some false,none,none,some false,some false,none,none,none,none],41,33⟩
def shRN:Shape:=⟨[(4,.nil)],[],[],41,33⟩
def shRO:Shape:=⟨[(4,.own 0 0 2)],[bpair 0],[],41,33⟩
@[simp] def zDcl1:List SX:=[.var 4,.var 5,.var 0,.cell (.var 1) (.var 3) 4 0,.cell (.var 1) (.var 3) 4 1,.cell (.var 1) (.var 3) 4 2,.cell (.var 1) (.var 3) 4 3]
@[simp] def zDcl2:SX:=.cell (.var 4) (.var 6) 1 0
@[simp] def zDcl3:SX:=.bin .add (.var 6) (.con (.int .i64 1))
@[simp] def zDcl4:SX:=.bin .lss (.var 6) (.var 5)
@[simp] def zDcl5:SX:=.bin .add (.var 3) (.con (.int .i64 1))
@[simp] def zDcl6:SX:=.bin .lss (.var 3) (.var 2)
@[simp] def zDcl7:SX:=.lit 1 [.var 11,zDcl2]
@[simp] def zDcl8:Fact:=same (.len (.var 6)) (.len (.var 6))
@[simp] def zDcl9:SX:=.cell (.var 1) (.var 3) 4 0
@[simp] def Zlv:SX:=.cell (.var 1) (.var 3) 4 1
@[simp] def Zlu:SX:=.cell (.var 1) (.var 3) 4 2
@[simp] def Zlt:SX:=.cell (.var 1) (.var 3) 4 3
@[simp] def Zls:Fact:=.idx (.var 4) (.var 6) 1 1
@[simp] def Zef:Fact:=.ok (.var 2)
@[simp] def Zj3:SX:=.con (.int .i64 0)
@[simp] def Ze0:Fact:=.ok (.var 0)
@[simp] def Zlr:SX:=.len (.fn 1 zDcl1 0)
@[simp] def Zpx:SX:=rop ROp.cat [.var 13,zDcl7]
@[simp] def Zqs:Fact:=same (.len (.var 13)) (.len (.var 13))
@[simp] def Zfp:Fact:=.ok (.var 3)
@[simp] def Zpw:Fact:=.idx (.var 1) (.var 3) 4 4
@[simp] def Zpv:List SX:=[.var 13,.var 11,zDcl2]
@[simp] def zDcl23:List SX:=[.var 0,.var 1,.var 2,.var 3,.var 4,.var 5,.var 6]
theorem preC:segTo Try.prog (orcFn tabK) 10000 (flC.take 2) shC [] shN [(2,0)] hA=some (.normal,[.ok (.len (.var 1)),Zef,.ok (.len (.var 1)),.ok Zj3],[.var 2,.var 1,.len (.var 1),Zj3,.var 0,.var 1]):=by kernel_rfl
theorem hdN:segTo Try.prog (orcFn tabK) 10000 (lpC.take 2) shN [1] shN [(0,0)] hA=some (.normal,[.ok zDcl6,.is zDcl6 (.bool true),Ze0,Zef,Zfp],[.var 0,.var 1,.var 2,.var 3,.var 4,.var 5]):=by kernel_rfl
theorem hdO:segTo Try.prog (orcFn tabK) 10000 (lpC.take 2) shO [1] shO [(0,0),(1,0)] hA=some (.normal,[.ok zDcl6,.is zDcl6 (.bool true),Ze0,Zef,Zfp,zDcl8],zDcl23):=by kernel_rfl
theorem exN:segTo Try.prog (orcFn tabK) 10000 lpC shN [0] shN [(0,0)] hA=some (.exit 0,[.ok zDcl6,.is zDcl6 (.bool false),Ze0,Zef,Zfp],[.var 0,.var 1,.var 2,.var 3,.var 4,.var 5]):=by kernel_rfl
theorem exO:segTo Try.prog (orcFn tabK) 10000 lpC shO [0] shO [(0,0),(1,0)] hA=some (.exit 0,[.ok zDcl6,.is zDcl6 (.bool false),Ze0,Zef,Zfp,zDcl8],zDcl23):=by kernel_rfl
theorem bdN:segTo Try.prog (orcFn tabK) 10000 (bkC.take 2) shN [] shKN [(0,0),(4,0)] hA=some (.normal,[Zpw,Zpw,.ok zDcl9,.ok Zlv,.ok Zlu,.ok Zlt,.fn 43 (ECh 1) zDcl1,.ok Zlr,Ze0,Zef,Zfp,.ok Zlr,.ok Zj3,.ok zDcl9,.ok Zlv,.ok Zlu,.ok Zlt],[.var 0,.var 1,.var 2,.var 3,.fn 1 zDcl1 0,Zlr,Zj3,.var 4,.var 5,zDcl9,Zlv,Zlu,Zlt]):=by kernel_rfl
theorem bdO:segTo Try.prog (orcFn tabK) 10000 (bkC.take 2) shO [] shKO [(0,0),(5,0),(1,0)] hA=some (.normal,[Zpw,Zpw,.ok zDcl9,.ok Zlv,.ok Zlu,.ok Zlt,.fn 43 (ECh 1) zDcl1,.ok Zlr,Ze0,Zef,Zfp,.ok Zlr,.ok Zj3,.ok zDcl9,.ok Zlv,.ok Zlu,.ok Zlt,zDcl8],[.var 0,.var 1,.var 2,.var 3,.fn 1 zDcl1 0,Zlr,Zj3,.var 4,.var 5,zDcl9,Zlv,Zlu,Zlt,.var 6]):=by kernel_rfl
theorem kxN:segTo Try.prog (orcFn tabK) 10000 lpK shKN [0] shN [(0,0)] hA=some (.exit 2,[.ok zDcl4,.is zDcl4 (.bool false),Ze0,Zef,Zfp],[.var 0,.var 1,.var 2,.var 3,.var 7,.var 8]):=by kernel_rfl
theorem kxO:segTo Try.prog (orcFn tabK) 10000 lpK shKO [0] shO [(0,0),(2,0)] hA=some (.exit 2,[.ok zDcl4,.is zDcl4 (.bool false),Ze0,Zef,Zfp,Zqs],[.var 0,.var 1,.var 2,.var 3,.var 7,.var 8,.var 13]):=by kernel_rfl
theorem kN:segTo Try.prog (orcFn tabK) 10000 lpK shKN [1,0] shKO [(0,0),(1,0),(8,0)] hA=some (.normal,[.ok zDcl4,.is zDcl4 (.bool true),Zls,Zls,.ok zDcl2,.fn 53 (ECn 2) [.lit 0 [],.var 11,zDcl2],.is (.fn 2 [.lit 0 [],.var 11,zDcl2] 0) (.bool false),rng Zj3 (.len zDcl7),upto (.len zDcl7) 4294967296,.ok zDcl3,Ze0,Zef,Zfp,.ok (.var 5),.ok zDcl3,.ok (.var 9),.ok (.var 10),.ok (.var 11),.ok (.var 12),same (.len zDcl7) (.len zDcl7)],[.var 0,.var 1,.var 2,.var 3,.var 4,.var 5,zDcl3,.var 7,.var 8,.var 9,.var 10,.var 11,.var 12,zDcl7]):=by kernel_rfl
theorem kO1:segTo Try.prog (orcFn tabK) 10000 lpK shKO [1,1] shKO [(0,0),(1,0),(2,0)] hA=some (.normal,[.ok zDcl4,.is zDcl4 (.bool true),Zls,Zls,.ok zDcl2,.fn 53 (ECn 2) Zpv,.is (.fn 2 Zpv 0) (.bool true),.ok zDcl3,Ze0,Zef,Zfp,.ok (.var 5),.ok zDcl3,.ok (.var 9),.ok (.var 10),.ok (.var 11),.ok (.var 12),Zqs],[.var 0,.var 1,.var 2,.var 3,.var 4,.var 5,zDcl3,.var 7,.var 8,.var 9,.var 10,.var 11,.var 12,.var 13]):=by kernel_rfl
theorem kO0:segTo Try.prog (orcFn tabK) 10000 lpK shKO [1,0] shKO [(0,0),(1,0),(2,1)] hA=some (.normal,[.ok zDcl4,.is zDcl4 (.bool true),Zls,Zls,.ok zDcl2,.fn 53 (ECn 2) Zpv,.is (.fn 2 Zpv 0) (.bool false),Zqs,upto (.len Zpx) 4294967296,.ok zDcl3,Ze0,Zef,Zfp,.ok (.var 5),.ok zDcl3,.ok (.var 9),.ok (.var 10),.ok (.var 11),.ok (.var 12),same (.len Zpx) (.len Zpx)],[.var 0,.var 1,.var 2,.var 3,.var 4,.var 5,zDcl3,.var 7,.var 8,.var 9,.var 10,.var 11,.var 12,Zpx]):=by kernel_rfl
theorem stN:segTo Try.prog (orcFn tabK) 10000 (lpC.drop 3) shN [] shN [(0,0)] hA=some (.normal,[.ok zDcl5,Ze0,Zef,.ok zDcl5],[.var 0,.var 1,.var 2,zDcl5,.var 4,.var 5]):=by kernel_rfl
theorem stO:segTo Try.prog (orcFn tabK) 10000 (lpC.drop 3) shO [] shO [(0,0),(1,0)] hA=some (.normal,[.ok zDcl5,Ze0,Zef,.ok zDcl5,zDcl8],[.var 0,.var 1,.var 2,zDcl5,.var 4,.var 5,.var 6]):=by kernel_rfl
theorem poN:segTo Try.prog (orcFn tabK) 10000 (flC.drop 3) shN [] shRN [] hA=some (.ret,[],[]):=by kernel_rfl
theorem poO:segTo Try.prog (orcFn tabK) 10000 (flC.drop 3) shO [] shRO [(1,0)] hA=some (.ret,[zDcl8],[.var 6]):=by kernel_rfl
@[simp] theorem kCd (k:Nat):(ECd k).k=k:=rfl
noncomputable def F:Fns:=fun k=>match k with | 1=>spec RCh | 2=>spec RCn | _=>fun _=>none
theorem t1:ToldF 43 (ECh 1) (F 1):=Zqz 1
theorem t2:ToldF 53 (ECn 2) (F 2):=toldCn 2
theorem F1 {d:Desk} {t:Int} (w:LeM) (h:okIn d t):F 1 (inDk d t w)=some [pRow encN (clashW d t w)]:=Zam fCh ⟨d,t,w,h,rfl,rfl⟩
theorem F2 {l:List Pr} (h:l.length<=1000000) (a b:Int):F 2 [pRow encP l,pI a,pI b]=some [pB (decide ((a,b) ∈ l))]:=Zam fCn ⟨l,(a,b),h,rfl,rfl⟩
theorem cellN (l:List Int) (i:Nat) (h:i < l.length):Zd3 (pRow encN l) (pI (i:Int)) 1 0=some (pI l[i]):=by
 rw [Zca encN l i .i64 1 0 rfl h,Zdp encN l i 0 _ (List.getElem?_eq_getElem h) (by decide)];rfl
theorem cutC:flC=flC.take 2++.block (Zaf (nth flC 2)) (.loop (Zah (nth flC 2))) :: flC.drop 3:=by kernel_rfl
theorem cutL:lpC=lpC.take 2++.block (Zaf (nth lpC 2)) (Zbg (nth lpC 2)) :: lpC.drop 3:=by kernel_rfl
theorem cutB:bkC=bkC.take 2++[.block (Zaf (nth bkC 2)) (.loop (Zah (nth bkC 2)))]:=by kernel_rfl
abbrev stD (t:Int) (d:Desk) (i:Nat):List PV:=[pI t,pRow encL d.2,pI (d.2.length:Int),pI (i:Int),pRow encL d.1,pRow encL d.2]
abbrev stK (t:Int) (d:Desk) (i:Nat) (x:LeM) (cl:List Int) (k:Nat):List PV:=[pI t,pRow encL d.2,pI (d.2.length:Int),pI (i:Int),pRow encN cl,pI (cl.length:Int),pI (k:Int),pRow encL d.1,pRow encL d.2,pI x.1,pI x.2.1,pI x.2.2.1,pI x.2.2.2]
def InD (C:Base) (t:Int) (d:Desk) (i:Nat) (acc:List Pr) (a:Act) (w:World):Prop :=
 (acc=[]/\Zag C shN (stD t d i) a w) \/ Zag C shO (stD t d i++[pRow encP acc]) a w
def InK (C:Base) (t:Int) (d:Desk) (i:Nat) (x:LeM) (cl:List Int) (k:Nat) (acc:List Pr) (a:Act) (w:World):Prop :=
 (acc=[]/\Zag C shKN (stK t d i x cl k) a w) \/ Zag C shKO (stK t d i x cl k++[pRow encP acc]) a w
set_option maxHeartbeats 2000000 in
theorem loopK (C:Base) (hF:C.F=F) (t:Int) (d:Desk) (i:Nat) (x:LeM) (cl:List Int) (acc0:List Pr) (hL:acc0.length+cl.length<=990000) (Q:Exit->Act->World->Prop) (R:List Code)
  (hQ:∀ a w,InD C t d i (addC x.2.2.1 cl acc0) a w->wpL Try.prog R Q a w) {a:Act} {w:World} (hin:InK C t d i x cl 0 acc0 a w) :
  wpL Try.prog (.block (Zaf (nth bkC 2)) (.loop (Zah (nth bkC 2))) :: R) Q a w:=by
 generalize hZ:addC x.2.2.1 cl acc0=Z at *
 refine Zas (fun n a w=>∃ (k:Nat) (acc:List Pr),n=cl.length - k/\k<=cl.length/\acc.length+(cl.length - k)<=990000/\addC x.2.2.1 (cl.drop k) acc=Z/\InK C t d i x cl k acc a w) ?_
  (n:=cl.length) ⟨0,acc0,by omega,by omega,by omega,hZ,hin⟩
 rintro n a w ⟨k,acc,rfl,hk,hlen,hz,hin⟩
 show wpL Try.prog lpK _ a w
 rw [<- List.append_nil lpK]
 by_cases hlt:k < cl.length
 ·have hc:=cellN cl k hlt
  have ix:=Zan encN cl k 1 1 .i64 rfl hlt (by decide)
  have v3:IntKind.i64.wrap ((k:Int)+1)=(k:Int)+1:=wrapI _ (by omega) (by omega)
  rw [addC_take _ _ hlt] at hz
  have g2:=F2 (l:=acc) (by omega) x.2.2.1 cl[k]
  have hal:=Zmx acc (x.2.2.1,cl[k])
  rcases hin with ⟨h00,hin⟩ | hin
  ·subst h00
   have g2:F 2 [PV.row 0 [],pI x.2.2.1,pI cl[k]]=some [pB false]:=by have:=g2;simp only [List.not_mem_nil,decide_false] at this;exact this
   have r1:=one_rowP (x.2.2.1,cl[k])
   have hz':addC x.2.2.1 (cl.drop (k+1)) [(x.2.2.1,cl[k])]=Z:=by rw [<- hz];simp [addP]
   simp only at r1
   refine Zad names_ok mixed_ok (Zae _) kN hin ?_ ?_
   ·simp [Zab,Zaa,Base.ev,SX.ev,evs,Value.oneCell',hF,g2,dcl.t2,Zac,binPV,hc,ix,v3,hlt,r1]
   ·intro qs a1 w1 hq h1
    simp [evs,SX.ev,binPV,v3,hc,r1] at hq
    subst hq
    exact ⟨fun _=>.inl ⟨rfl,_,by omega,k+1,[(x.2.2.1,cl[k])],rfl,by omega,by simp;omega,hz',.inr h1⟩,fun h=>absurd rfl h⟩
  ·by_cases hm:(x.2.2.1,cl[k]) ∈ acc
   ·rw [decide_eq_true hm] at g2
    have hz':addC x.2.2.1 (cl.drop (k+1)) acc=Z:=by rw [<- hz,addP,if_pos hm]
    refine Zad names_ok mixed_ok (Zae _) kO1 hin ?_ ?_
    ·simp [Zab,Zaa,Base.ev,SX.ev,evs,Value.oneCell',hF,g2,dcl.t2,Zac,binPV,hc,ix,v3,hlt]
    ·intro qs a1 w1 hq h1
     simp [evs,SX.ev,binPV,v3] at hq
     subst hq
     exact ⟨fun _=>.inl ⟨rfl,_,by omega,k+1,acc,rfl,by omega,by omega,hz',.inr h1⟩,fun h=>absurd rfl h⟩
   ·rw [decide_eq_false hm] at g2
    have hz':addC x.2.2.1 (cl.drop (k+1)) (acc++[(x.2.2.1,cl[k])])=Z:=by rw [<- hz,addP,if_neg hm]
    have rc:=r_catP acc (x.2.2.1,cl[k])
    have hla:(acc++[(x.2.2.1,cl[k])]).length=acc.length+1:=by simp
    simp only at rc
    refine Zad names_ok mixed_ok (Zae _) kO0 hin ?_ ?_
    ·simp [Zab,Zaa,Base.ev,SX.ev,evs,Value.oneCell',hF,g2,dcl.t2,Zac,binPV,hc,ix,v3,hlt,rc,lenP]
     all_goals first | omega | exact ⟨⟨acc.length+1,by omega,by omega⟩,acc.length+1,by omega⟩
    ·intro qs a1 w1 hq h1
     simp [evs,SX.ev,binPV,v3,hc,rc] at hq
     subst hq
     exact ⟨fun _=>.inl ⟨rfl,_,by omega,k+1,_,rfl,by omega,by omega,hz',.inr h1⟩,fun h=>absurd rfl h⟩
 ·have hke:k=cl.length:=by omega
  subst hke
  rw [List.drop_length] at hz
  simp only [dix.addC] at hz
  subst hz
  rcases hin with ⟨h00,hin⟩ | hin
  ·refine Zad names_ok mixed_ok (Zae _) kxN hin ?_ ?_
   ·simp [Base.ev,SX.ev,evs,Value.oneCell',binPV]
   ·intro qs a1 w1 hq h1
    simp [evs,SX.ev] at hq
    subst hq
    exact ⟨nofun,fun _=>.inr (.inl ⟨by rw [show Zaf (nth bkC 2)=2 by kernel_rfl];rfl,hQ _ _ (.inl ⟨h00,h1⟩)⟩)⟩
  ·refine Zad names_ok mixed_ok (Zae _) kxO hin ?_ ?_
   ·simp [Base.ev,SX.ev,evs,Value.oneCell',binPV,lenP]
   ·intro qs a1 w1 hq h1
    simp [evs,SX.ev] at hq
    subst hq
    exact ⟨nofun,fun _=>.inr (.inl ⟨by rw [show Zaf (nth bkC 2)=2 by kernel_rfl];rfl,hQ _ _ (.inr h1)⟩)⟩
def RCd (ps qs:List PV):Prop:=∃ (d:Desk) (t:Int),d.1.length<=900/\d.2.length<=900/\0<=t/\t<=1000000/\ps=[pRow encL d.1,pRow encL d.2,pI t]/\qs=[pRow encP (callsF (clashW d t) d.2 [])]
theorem fCd:∀ ps q1 q2,RCd ps q1->RCd ps q2->q1=q2:=by
 rintro ps q1 q2 ⟨⟨a,b⟩,t,_,_,_,_,rfl,rfl⟩ ⟨⟨a',b'⟩,t',_,_,_,_,h,rfl⟩
 simp only [List.cons.injEq,PV.v.injEq,Value.int.injEq,true_and,and_true] at h
 obtain ⟨h1,h2,rfl⟩:=h
 obtain rfl:=fil.pRow_inj Zar h1
 obtain rfl:=fil.pRow_inj Zar h2
 rfl
set_option maxHeartbeats 2000000 in
theorem toldCd (k:Nat):ToldF 33 (ECd k) (spec RCd):=by
 refine Zcy F _ (Za1 Try.prog 33) Try.func33 (by kernel_rfl) shC (by kernel_rfl) ?_ ?_
 ·intro ps qs h
  obtain ⟨d,t,_,_,_,_,rfl,rfl⟩:=Zal h
  exact Zb3 rfl
 ·intro C ps qs hF h a w hsh
  obtain ⟨d,t,h1,h2,h3,h4,rfl,rfl⟩:=Zal h
  have hok:okIn d t:=⟨by omega,by omega,h3,h4⟩
  generalize hZ:callsF (clashW d t) d.2 []=Z at *
  show wpL Try.prog flC _ a w
  rw [cutC]
  refine Zad names_ok mixed_ok (Zae _) preC hsh ?_ ?_
  ·simp [Base.ev,SX.ev,evs,Value.oneCell',Zac]
  intro qs a1 w1 hq h1'
  refine ⟨fun _=>?_,fun h=>absurd rfl h⟩
  simp [evs,SX.ev,Zac] at hq
  subst hq
  refine Zas (fun n a w=>∃ (i:Nat) (acc:List Pr),n=d.2.length - i/\i<=d.2.length/\acc.length+(d.2.length - i) * 900<=810000/\callsF (clashW d t) (d.2.drop i) acc=Z/\InD C t d i acc a w) ?_
   (n:=d.2.length) ⟨0,[],by omega,by omega,by simp;omega,hZ,.inl ⟨rfl,h1'⟩⟩
  rintro n a w ⟨i,acc,rfl,hi,hlen,hz,hin⟩
  show wpL Try.prog lpC _ a w
  by_cases hlt:i < d.2.length
  ·obtain ⟨c0',c1',c2',c3'⟩:=cellL d.2 i hlt
   have ix:=Zan encL d.2 i 4 4 .i64 rfl hlt (by decide)
   have v3:IntKind.i64.wrap ((i:Int)+1)=(i:Int)+1:=wrapI _ (by omega) (by omega)
   rw [calls_take _ _ hlt] at hz
   have hcl:(clashW d t d.2[i]).length<=900:=Nat.le_trans (lec.clash_len _ _ _ _ _) h1
   have hal:=Zmy d.2[i].2.2.1 (clashW d t d.2[i]) acc
   have g1:=F1 d.2[i] hok
   rw [cutL]
   have step:∀ a w,InD C t d i (addC d.2[i].2.2.1 (clashW d t d.2[i]) acc) a w->wpL Try.prog (lpC.drop 3) (fun e a' w'=>(e=.normal/\∃ n',n' < d.2.length - i/\∃ (i:Nat) (acc:List Pr),n'=d.2.length - i/\i<=d.2.length/\acc.length+(d.2.length - i) * 900<=810000/\callsF (clashW d t) (d.2.drop i) acc=Z/\InD C t d i acc a' w') \/ (e=.exit (Zaf (nth flC 2))/\wpL Try.prog (flC.drop 3) (fun e a' w'=>(e=.normal \/ e=.ret)/\∃ sh' ps' es,Zag C sh' ps' a' w'/\resTo Try.prog Try.f33 sh' (ECd k)=some es/\evs (fun i=>ps'[i]?) F es=some [pRow encP Z]) a' w') \/ (e=.ret/\((Exit.ret=.normal \/ Exit.ret=.ret)/\∃ sh' ps' es,Zag C sh' ps' a' w'/\resTo Try.prog Try.f33 sh' (ECd k)=some es/\evs (fun i=>ps'[i]?) F es=some [pRow encP Z]))) a w:=by
    intro a w hin
    rw [<- List.append_nil (lpC.drop 3)]
    rcases hin with ⟨h00,hin⟩ | hin
    ·refine Zad names_ok mixed_ok (Zae _) stN hin ?_ ?_
     ·simp [Base.ev,SX.ev,evs,Value.oneCell',binPV,v3]
     ·intro qs a2 w2 hq h2'
      simp [evs,SX.ev,binPV,v3] at hq
      subst hq
      exact ⟨fun _=>.inl ⟨rfl,_,by omega,i+1,_,rfl,by omega,by omega,hz,.inl ⟨h00,h2'⟩⟩,fun h=>absurd rfl h⟩
    ·refine Zad names_ok mixed_ok (Zae _) stO hin ?_ ?_
     ·simp [Base.ev,SX.ev,evs,Value.oneCell',binPV,v3,lenP]
     ·intro qs a2 w2 hq h2'
      simp [evs,SX.ev,binPV,v3] at hq
      subst hq
      exact ⟨fun _=>.inl ⟨rfl,_,by omega,i+1,_,rfl,by omega,by omega,hz,.inr h2'⟩,fun h=>absurd rfl h⟩
   simp only [inDk] at g1
   generalize clashW d t d.2[i]=cl at *
   rcases hin with ⟨h00,hin⟩ | hin
   ·refine Zad names_ok mixed_ok (Zae _) hdN hin ?_ ?_
    ·simp [Base.ev,SX.ev,evs,Value.oneCell',binPV,hlt]
    intro qs a2 w2 hq h2'
    refine ⟨fun _=>?_,fun h=>absurd rfl h⟩
    simp [evs,SX.ev] at hq
    subst hq
    refine Zcj ?_
    show wpL Try.prog bkC _ a2 w2
    rw [cutB]
    refine Zad names_ok mixed_ok (Zae _) bdN h2' ?_ ?_
    ·simp [Zab,Zaa,Base.ev,SX.ev,evs,Value.oneCell',hF,g1,dcl.t1,binPV,c0',c1',c2',c3',ix,hlt,lec.lenN]
    intro qs a3 w3 hq h3'
    refine ⟨fun _=>?_,fun h=>absurd rfl h⟩
    simp [evs,SX.ev,hF,g1,c0',c1',c2',c3',lec.lenN] at hq
    subst hq
    exact loopK C hF t d i d.2[i] cl acc (by omega) _ [] (fun a w h=>.inl ⟨rfl,step a w h⟩) (.inl ⟨h00,h3'⟩)
   ·refine Zad names_ok mixed_ok (Zae _) hdO hin ?_ ?_
    ·simp [Base.ev,SX.ev,evs,Value.oneCell',binPV,hlt,lenP]
    intro qs a2 w2 hq h2'
    refine ⟨fun _=>?_,fun h=>absurd rfl h⟩
    simp [evs,SX.ev] at hq
    subst hq
    refine Zcj ?_
    show wpL Try.prog bkC _ a2 w2
    rw [cutB]
    refine Zad names_ok mixed_ok (Zae _) bdO h2' ?_ ?_
    ·simp [Zab,Zaa,Base.ev,SX.ev,evs,Value.oneCell',hF,g1,dcl.t1,binPV,c0',c1',c2',c3',ix,hlt,lec.lenN,lenP]
    intro qs a3 w3 hq h3'
    refine ⟨fun _=>?_,fun h=>absurd rfl h⟩
    simp [evs,SX.ev,hF,g1,c0',c1',c2',c3',lec.lenN] at hq
    subst hq
    exact loopK C hF t d i d.2[i] cl acc (by omega) _ [] (fun a w h=>.inl ⟨rfl,step a w h⟩) (.inr h3')
  ·have hie:i=d.2.length:=by omega
   subst hie
   rw [List.drop_length] at hz
   simp only [callsF] at hz
   subst hz
   rw [<- List.append_nil lpC]
   rcases hin with ⟨h00,hin⟩ | hin
   ·subst h00
    refine Zad names_ok mixed_ok (Zae _) exN hin ?_ ?_
    ·simp [Base.ev,SX.ev,evs,Value.oneCell',binPV]
    ·intro qs a2 w2 hq h2'
     refine ⟨nofun,fun _=>.inr (.inl ⟨by rw [show Zaf (nth flC 2)=0 by kernel_rfl];rfl,?_⟩)⟩
     rw [<- List.append_nil (flC.drop 3)]
     refine Zad names_ok mixed_ok (Zae _) poN h2' (by simp) ?_
     intro qs a3 w3 hq h3'
     exact ⟨nofun,fun _=>⟨.inr rfl,shRN,_,[.lit 0 []],h3',by kernel_rfl,by simp [evs,SX.ev,pRow,Enc.all]⟩⟩
   ·refine Zad names_ok mixed_ok (Zae _) exO hin ?_ ?_
    ·simp [Base.ev,SX.ev,evs,Value.oneCell',binPV,lenP]
    ·intro qs a2 w2 hq h2'
     refine ⟨nofun,fun _=>.inr (.inl ⟨by rw [show Zaf (nth flC 2)=0 by kernel_rfl];rfl,?_⟩)⟩
     simp [evs,SX.ev] at hq
     subst hq
     rw [<- List.append_nil (flC.drop 3)]
     refine Zad names_ok mixed_ok (Zae _) poO h2' ?_ ?_
     ·simp [Base.ev,SX.ev,evs,Value.oneCell',lenP]
     intro qs a3 w3 hq h3'
     simp [evs,SX.ev] at hq
     subst hq
     exact ⟨nofun,fun _=>⟨.inr rfl,shRO,_,[.var 0],h3',by kernel_rfl,by simp [evs,SX.ev]⟩⟩
end Go.Proofs.Ytcaclmdkhffegaa.dcl
