/- The document's Grant, told. -/
import Derived.Test.YtcaclmdkhffegaaLdp
import Derived.Test.YtcaclmdkhffegaaLcq
namespace Go.Proofs.Ytcaclmdkhffegaa.lgq
open Go Go.RowKit eng SX Fact fil lem lea leb lam ldp
open lec hiding hApp isApp
set_option linter.unusedVariables false
set_option linter.unusedSimpArgs false
set_option maxRecDepth 1000000
def hG (_:FuncId) (o:Oper):Option Hint:=match o.op with | .call { callee:=.builtin .append,.. }=>some .own | .slice ..=>some .own | _=>none
def EGq (k:Nat):FnE:={ k:=k,ins:=[none,some 4],leaks:=[false,false,false,false,false],outs:=[none],kinds:=[.row] }
def tabG (f:FuncId):Option FnE:=cond (Nat.beq f 28) (some (EDq 1)) none
def tabR (f:FuncId):Option FnE:=cond (Nat.beq f 28) (some (EDqr 1)) none
noncomputable def flG:=flat (Za1 Try.prog 57)
noncomputable def lpG:=flat (Zah (nth flG 2))
noncomputable def lpH:=flat (Zah (nth flG 5))
def xbox:BoxT:=⟨57,0,false,[.leaf,.leaf,.leaf,.leaf],none,false⟩
def shG:Shape:=⟨[(0,.leaf),(1,.agg 4)],[],[some false,none,none,none,none],106,57⟩
def shA:Shape:=⟨[(0,.leaf),(3,.ptr 0 0 0 0),(5,.leaf)],[xbox],[some false,none,none,none,none,none],106,57⟩
def shN:Shape:=⟨[(3,.ptr 0 0 0 0),(6,.nil),(7,.leaf)],[xbox],[none,none,none,none,none],106,57⟩
def shO:Shape:=⟨[(3,.ptr 0 0 0 0),(6,.own 1 5 4),(7,.leaf)],[xbox,Zl3 5],[none,none,none,none,none],106,57⟩
def shL:Shape:=⟨[(3,.ptr 0 0 0 0),(6,.leaf),(7,.leaf)],[xbox],[some false,none,none,none,none,none],106,57⟩
def shR:Shape:=⟨[(4,.own 0 0 4)],[Zl3 0],[],106,57⟩
@[simp] def zLgq1:SX:=rop ROp.cat [rop ROp.cat [.lit 0 [],SX.sub (.var 0) (rop ROp.min2 [.con (.int .i64 0),.con (.int .i64 0)]) (.var 1) 4],.lit 1 [.var 2,.var 3,.var 4,.var 5]]
@[simp] def zLgq2:SX:=.cell (.var 0) (.var 1) 4 1
@[simp] def zLgq3:SX:=rop ROp.cat [zLgq1,SX.sub (.var 0) (rop ROp.min2 [.var 1,.var 1]) (.len (.var 0)) 4]
@[simp] def zLgq4:SX:=.len (rop ROp.cat [.lit 0 [],SX.sub (.var 0) (rop ROp.min2 [.con (.int .i64 0),.con (.int .i64 0)]) (.var 1) 4])
@[simp] def zLgq5:SX:=.bin .add (.var 1) (.con (.int .i64 1))
@[simp] def zLgq6:SX:=.bin .lss (.var 1) (.len (.var 0))
@[simp] def zLgq7:Fact:=.idx (.var 0) (.var 1) 4 4
@[simp] def zLgq8:SX:=.cell (.var 0) (.var 1) 4 0
@[simp] def zLgq9:SX:=.lit 1 [.var 1,.var 2,.var 3,.var 4]
@[simp] def Zd9:SX:=.con (.int .i64 0)
@[simp] def Zla:SX:=.bin .add (.var 0) (.con (.int .i64 1))
@[simp] def Zgn:SX:=.bin .eql zLgq2 (.var 3)
@[simp] def Zhd:Fact:=.idx (.var 0) (.var 1) 4 2
@[simp] def zLgq14:SX:=.cell (.var 5) (.var 0) 4 1
@[simp] def Zhc:List SX:=[.var 0,.var 2,.var 3]
@[simp] def Zk9:SX:=.bin .lss (.var 0) (.len (.var 5))
@[simp] def Zir:SX:=.bin .gtr zLgq2 (.var 3)
@[simp] def Zov:List SX:=[.var 0,zLgq5,.var 2,.var 3,.var 4,.var 5]
@[simp] def Zdd:SX:=.len (.var 0)
@[simp] def Zjx:Fact:=.is zLgq6 (.bool true)
@[simp] def Zk8:SX:=.bin .eql zLgq8 (.var 2)
@[simp] def Zou:Fact:=same (.len (.var 5)) (.len (.var 5))
@[simp] def Zqj:SX:=rop ROp.max2 [.var 4,.cell (.var 0) (.var 1) 4 2]
@[simp] def Zqi:SX:=rop ROp.max2 [.var 5,.cell (.var 0) (.var 1) 4 3]
@[simp] def Zm8:Fact:=rng (.var 0) (.len (.var 5))
@[simp] def Zm7:Fact:=.idx (.var 0) (.var 1) 4 1
@[simp] def Zd8:Fact:=.ok (.var 2)
@[simp] def Zd7:Fact:=.ok (.var 3)
@[simp] def Zev:Fact:=.ok (.var 4)
@[simp] def Zot:SX:=rop ROp.min2 [Zd9,Zd9]
@[simp] def Zos:SX:=rop ROp.min2 [.var 1,.var 1]
@[simp] def Zor:SX:=rop ROp.cat [.var 5,zLgq9]
@[simp] def Zoq:Fact:=.idx (.var 5) (.var 0) 4 2
@[simp] def Zop:SX:=.bin .gtr zLgq14 (.var 2)
@[simp] def Zoo:SX:=.bin .eql zLgq14 (.var 2)
@[simp] def Zon:SX:=.bin .gtr zLgq8 (.var 2)
theorem pre:segTo Try.prog (orcFn tabG) 10000 (flG.take 2) shG [] shA [(1,0)] hApp=some (.normal,[.ok Zd9,.ok (.var 1),Zd8,Zd7,Zev],[.var 0,Zd9,.var 1,.var 2,.var 3,.var 4]):=by kernel_rfl
theorem ex:segTo Try.prog (orcFn tabG) 10000 lpG shA [0] shA [(0,0)] hApp=some (.exit 0,[.ok Zdd,.ok zLgq6,.is zLgq6 (.bool false),.ok (.var 1),Zd8,Zd7,Zev,.ok (.var 5)],[.var 0,.var 1,.var 2,.var 3,.var 4,.var 5]):=by kernel_rfl
theorem l0:segTo Try.prog (orcFn tabG) 10000 lpG shA [1,0] shA [(0,0)] hApp=some (.normal,[.ok Zdd,.ok zLgq6,Zjx,zLgq7,Zm7,.ok zLgq8,.ok Zk8,.is Zk8 (.bool false),.ok zLgq5,.ok zLgq5,Zd8,Zd7,Zev,.ok (.var 5)],Zov):=by kernel_rfl
theorem l10:segTo Try.prog (orcFn tabG) 10000 lpG shA [1,1,0] shA [(0,0)] hApp=some (.normal,[.ok Zdd,.ok zLgq6,Zjx,zLgq7,Zm7,.ok zLgq8,.ok Zk8,.is Zk8 (.bool true),zLgq7,Zhd,.ok zLgq2,.ok Zgn,.is Zgn (.bool false),.ok zLgq5,.ok zLgq5,Zd8,Zd7,Zev,.ok (.var 5)],Zov):=by kernel_rfl
theorem l11:segTo Try.prog (orcFn tabG) 10000 lpG shA [1,1,1] shA [(0,0)] hApp=some (.normal,[.ok Zdd,.ok zLgq6,Zjx,zLgq7,Zm7,.ok zLgq8,.ok Zk8,.is Zk8 (.bool true),zLgq7,Zhd,.ok zLgq2,.ok Zgn,.is Zgn (.bool true),zLgq7,.idx (.var 0) (.var 1) 4 3,.ok (.cell (.var 0) (.var 1) 4 2),.ok Zqj,zLgq7,zLgq7,.ok (.cell (.var 0) (.var 1) 4 3),.ok Zqi,.ok zLgq5,.ok zLgq5,Zd8,Zd7,.ok Zqj,.ok Zqi],[.var 0,zLgq5,.var 2,.var 3,Zqj,Zqi]):=by kernel_rfl
theorem midN:segTo Try.prog (orcFn tabG) 10000 ((flG.drop 3).take 2) shA [0] shN [(0,0)] hApp=some (.normal,[.fn 28 (EDq 1) Zhc,.is (.len (.fn 1 Zhc 0)) (.int .i64 0),.ok Zd9,Zd8,Zd7,Zev,.ok (.var 5)],[Zd9,.var 2,.var 3,.var 4,.var 5]):=by kernel_rfl
theorem midO:segTo Try.prog (orcFn tabG) 10000 ((flG.drop 3).take 2) shA [1] shO [(0,0),(2,0)] hApp=some (.normal,[.fn 28 (EDq 1) Zhc,rng Zd9 (.len (.fn 1 Zhc 0)),.ok Zd9,Zd8,Zd7,Zev,.ok (.var 5),same (.len (.fn 1 Zhc 0)) (.len (.fn 1 Zhc 0))],[Zd9,.var 2,.var 3,.var 4,.var 5,.fn 1 Zhc 0]):=by kernel_rfl
theorem exN:segTo Try.prog (orcFn tabG) 10000 lpH shN [0] shN [(0,0)] hApp=some (.exit 2,[.ok (.bin .lss (.var 0) Zd9),.is (.bin .lss (.var 0) Zd9) (.bool false),.ok (.var 0),.ok (.var 1),Zd8,Zd7,Zev],[.var 0,.var 1,.var 2,.var 3,.var 4]):=by kernel_rfl
theorem exO:segTo Try.prog (orcFn tabG) 10000 lpH shO [0] shO [(0,0),(1,0)] hApp=some (.exit 2,[.ok Zk9,.is Zk9 (.bool false),.ok (.var 0),.ok (.var 1),Zd8,Zd7,Zev,Zou],[.var 0,.var 1,.var 2,.var 3,.var 4,.var 5]):=by kernel_rfl
theorem g00:segTo Try.prog (orcFn tabG) 10000 lpH shO [1,0,0] shO [(0,0),(1,0)] hApp=some (.normal,[.ok Zk9,.is Zk9 (.bool true),Zm8,Zoq,.ok Zop,.is Zop (.bool false),Zm8,Zoq,.ok Zoo,.is Zoo (.bool false),.ok Zla,.ok Zla,.ok (.var 1),Zd8,Zd7,Zev,Zou],[Zla,.var 1,.var 2,.var 3,.var 4,.var 5]):=by kernel_rfl
theorem g010:segTo Try.prog (orcFn tabG) 10000 lpH shO [1,0,1,0] shO [(0,0),(1,0)] hApp=some (.normal,[.ok Zk9,.is Zk9 (.bool true),Zm8,Zoq,.ok Zop,.is Zop (.bool false),Zm8,Zoq,.ok Zoo,.is Zoo (.bool true),Zm8,.idx (.var 5) (.var 0) 4 1,.ok (.bin .gtr (.cell (.var 5) (.var 0) 4 0) (.var 1)),.is (.bin .gtr (.cell (.var 5) (.var 0) 4 0) (.var 1)) (.bool false),.ok Zla,.ok Zla,.ok (.var 1),Zd8,Zd7,Zev,Zou],[Zla,.var 1,.var 2,.var 3,.var 4,.var 5]):=by kernel_rfl
theorem midL:segTo Try.prog (orcFn tabR) 10000 ((flG.drop 3).take 2) shA [] shL [(0,0)] hApp=some (.normal,[.fn 28 (EDqr 1) Zhc,.ok Zd9,Zd8,Zd7,Zev,.ok (.var 5)],[.fn 1 Zhc 0,Zd9,.var 2,.var 3,.var 4,.var 5]):=by kernel_rfl
theorem gL00:segTo Try.prog (orcFn tabR) 10000 lpH shL [1,0,0] shL [(0,0)] hApp=some (.normal,[.ok Zdd,.ok zLgq6,Zjx,zLgq7,Zhd,.ok zLgq2,.ok Zir,.is Zir (.bool false),zLgq7,Zhd,.ok zLgq2,.ok Zgn,.is Zgn (.bool false),.ok zLgq5,.ok zLgq5,Zd8,Zd7,Zev,.ok (.var 5)],Zov):=by kernel_rfl
theorem gL010:segTo Try.prog (orcFn tabR) 10000 lpH shL [1,0,1,0] shL [(0,0)] hApp=some (.normal,[.ok Zdd,.ok zLgq6,Zjx,zLgq7,Zhd,.ok zLgq2,.ok Zir,.is Zir (.bool false),zLgq7,Zhd,.ok zLgq2,.ok Zgn,.is Zgn (.bool true),zLgq7,Zm7,.ok zLgq8,.ok Zon,.is Zon (.bool false),.ok zLgq5,.ok zLgq5,Zd8,Zd7,Zev,.ok (.var 5)],Zov):=by kernel_rfl
theorem gL1:segTo Try.prog (orcFn tabR) 10000 lpH shL [1,1] shR [(2,4)] hApp=some (.ret,[.ok Zdd,.ok zLgq6,Zjx,zLgq7,Zhd,.ok zLgq2,.ok Zir,.is Zir (.bool true),le3 Zot (.var 1) Zdd,cells (SX.sub (.var 0) Zot (.var 1) 4) 4,same (.len (.lit 0 [])) (.len (.lit 0 [])),upto zLgq4 4294967296,same zLgq4 zLgq4,upto (.len zLgq1) 4294967296,le3 Zos Zdd Zdd,cells (SX.sub (.var 0) Zos Zdd 4) 4,same (.len zLgq1) (.len zLgq1),upto (.len zLgq3) 4294967296,same (.len zLgq3) (.len zLgq3)],[zLgq3]):=by kernel_rfl
theorem gL011:segTo Try.prog (orcFn tabR) 10000 lpH shL [1,0,1,1] shR [(2,4)] hApp=some (.ret,[.ok Zdd,.ok zLgq6,Zjx,zLgq7,Zhd,.ok zLgq2,.ok Zir,.is Zir (.bool false),zLgq7,Zhd,.ok zLgq2,.ok Zgn,.is Zgn (.bool true),zLgq7,Zm7,.ok zLgq8,.ok Zon,.is Zon (.bool true),le3 Zot (.var 1) Zdd,cells (SX.sub (.var 0) Zot (.var 1) 4) 4,same (.len (.lit 0 [])) (.len (.lit 0 [])),upto zLgq4 4294967296,same zLgq4 zLgq4,upto (.len zLgq1) 4294967296,le3 Zos Zdd Zdd,cells (SX.sub (.var 0) Zos Zdd 4) 4,same (.len zLgq1) (.len zLgq1),upto (.len zLgq3) 4294967296,same (.len zLgq3) (.len zLgq3)],[zLgq3]):=by kernel_rfl
theorem pN:segTo Try.prog (orcFn tabG) 10000 (flG.drop 6) shN [] shR [(2,0)] hApp=some (.ret,[rng Zd9 (.len zLgq9),upto (.len zLgq9) 4294967296,same (.len zLgq9) (.len zLgq9)],[zLgq9]):=by kernel_rfl
theorem pO:segTo Try.prog (orcFn tabG) 10000 (flG.drop 6) shO [] shR [(1,1)] hApp=some (.ret,[Zou,upto (.len Zor) 4294967296,same (.len Zor) (.len Zor)],[Zor]):=by kernel_rfl
theorem r_sub (l:List LeM) (a b:Nat) (h1:a<=b) (h2:b<=l.length):subPV (pRow encL l) (pI (a:Int)) (pI (b:Int)) 4=some (pRow encL ((l.drop a).take (b - a))):=by
 have g1:(0:Int)<=(a:Int):=by omega
 have g2:(a:Int)<=(b:Int):=by omega
 have g3:(b:Int)<=(l.length:Int):=by omega
 have ha:encL.all l=encL.all (l.take a)++(encL.all ((l.drop a).take (b - a))++encL.all (l.drop b)):=by
  rw [<- Enc.all_append,<- Enc.all_append]
  congr 1
  have:l.drop b=(l.drop a).drop (b - a):=by rw [List.drop_drop];congr 1;omega
  rw [this,List.take_append_drop,List.take_append_drop]
 have e1:(encL.all (l.take a)).length=a * 4:=by rw [Enc.all_length,List.length_take,Nat.min_eq_left (by omega)];rfl
 have e2:(encL.all ((l.drop a).take (b - a))).length=(b - a) * 4:=by rw [Enc.all_length,List.length_take,List.length_drop,Nat.min_eq_left (by omega)];rfl
 simp only [subPV,pRow,pI,g1,g2,g3,decide_true,Bool.and_self,cond_true,Int.toNat_natCast,Option.some.injEq,PV.row.injEq]
 refine ⟨by simp;omega,?_⟩
 rw [ha,<- List.map_drop,<- List.map_take,List.drop_left' e1,List.take_left' e2]
def oneQ (x y:LeM):LeM:=if y.1=x.1/\y.2.1=x.2.1 then (x.1,x.2.1,max x.2.2.1 y.2.2.1,max x.2.2.2 y.2.2.2) else x
def Zeh (l:List LeM) (x:LeM):LeM:=l.foldl oneQ x
def Zbo (x y:LeM):Bool:=decide (x.2.1 < y.2.1) || (y.2.1 == x.2.1 && decide (x.1 < y.1))
def putQ (r:List LeM) (x:LeM):List LeM:=r.take (r.findIdx (Zbo x))++[x]++r.drop (r.findIdx (Zbo x))
def grantQ (l:List LeM) (x:LeM):List LeM:=putQ (dropL l x.1 x.2.1) (Zeh l x)
theorem one_keys (x y:LeM):(oneQ x y).1=x.1/\(oneQ x y).2.1=x.2.1:=by unfold oneQ;split <;> simp
theorem merge_keys (l:List LeM) (x:LeM):(Zeh l x).1=x.1/\(Zeh l x).2.1=x.2.1:=by
 induction l generalizing x with
 | nil=>exact ⟨rfl,rfl⟩
 | cons y l ih=>exact ⟨(ih (oneQ x y)).1.trans (one_keys x y).1,(ih (oneQ x y)).2.trans (one_keys x y).2⟩
theorem merge_step {l:List LeM} {i:Nat} (h:i < l.length) (x:LeM):Zeh (l.take (i+1)) x=oneQ (Zeh (l.take i) x) l[i]:=by
 rw [Zeh,List.take_add_one,List.getElem?_eq_getElem h,List.foldl_append];rfl
noncomputable def F:Fns:=fun k=>match k with | 1=>spec RDq | _=>fun _=>none
theorem F1 {l:List LeM} {c f:Int} (h:l.length<=1000000):F 1 [pRow encL l,pI c,pI f]=some [pRow encL (dropL l c f)]:=Zam fDq ⟨l,c,f,h,rfl,rfl⟩
theorem x1:ToldF 28 (EDq 1) (F 1):=toldDq 1
theorem x1r:ToldF 28 (EDqr 1) (F 1):=Zny 1
def RGq (ps qs:List PV):Prop:=∃ (l:List LeM) (x:LeM),l.length<=999999/\ps=pRow encL l :: p4 x/\qs=[pRow encL (grantQ l x)]
theorem fGq:∀ ps q1 q2,RGq ps q1->RGq ps q2->q1=q2:=by
 rintro ps q1 q2 ⟨l,x,_,rfl,rfl⟩ ⟨l',x',_,h,rfl⟩
 simp only [List.cons.injEq] at h
 obtain ⟨h,h3⟩:=h
 obtain rfl:=fil.pRow_inj Zar h
 obtain rfl:=Zjh h3
 rfl
theorem cutG:flG=flG.take 2++.block (Zaf (nth flG 2)) (.loop (Zah (nth flG 2))) :: ((flG.drop 3).take 2++.block (Zaf (nth flG 5)) (.loop (Zah (nth flG 5))) :: flG.drop 6):=by kernel_rfl
theorem r_max (a b:Int):ropPV .max2 [pI a,pI b]=some (pI (max a b)):=rfl
theorem r_minS (n:Int):ropPV .min2 [pI n,pI n]=some (pI n):=by simp [ropPV]
@[simp] theorem kGq (k:Nat):(EGq k).k=k:=rfl
set_option maxHeartbeats 4000000 in
theorem loopL (C:Base) (D:List LeM) (x0 x1 x2 x3:Int) (hD:D.length<=999999) (p:Nat) (hp:p < D.length) (hb:∀ j (h:j < D.length),j < p->Zbo (x0,x1,x2,x3) D[j]=false) (he:Zbo (x0,x1,x2,x3) D[p]=true) (Q:Exit->Act->World->Prop) (R:List Code)
  (hQ:∀ a w,Zag C shR [pRow encL (D.take p++[(x0,x1,x2,x3)]++D.drop p)] a w->Q .ret a w) {a:Act} {w:World} (h1:Zag C shL [pRow encL D,pI 0,pI x0,pI x1,pI x2,pI x3] a w) :
  wpL Try.prog (.block (Zaf (nth flG 5)) (.loop (Zah (nth flG 5))) :: R) Q a w:=by
 refine Zas (fun n a w=>∃ j:Nat,j<=p/\n=p - j/\Zag C shL [pRow encL D,pI (j:Int),pI x0,pI x1,pI x2,pI x3] a w) ?_ (n:=p) ⟨0,by omega,by omega,h1⟩
 rintro n a w ⟨j,hj,rfl,hin⟩
 show wpL Try.prog lpH _ a w
 rw [<- List.append_nil lpH]
 have hlt:j < D.length:=by omega
 obtain ⟨c0',c1',c2',c3'⟩:=cellL D j hlt
 have ix:=Zan encL D j 4 4 .i64 rfl hlt (by decide)
 have ix1:=Zan encL D j 4 1 .i64 rfl hlt (by decide)
 have ix2:=Zan encL D j 4 2 .i64 rfl hlt (by decide)
 have v3:IntKind.i64.wrap ((j:Int)+1)=(j:Int)+1:=wrapI _ (by omega) (by omega)
 have rm0:=r_minS 0
 have rmj:=r_minS (j:Int)
 have s1:subPV (pRow encL D) (pI 0) (pI (j:Int)) 4=some (pRow encL (D.take j)):=r_sub D 0 j (by omega) (by omega)
 have s2:=r_sub D j D.length (by omega) (by omega)
 rw [List.take_of_length_le (by simp)] at s2
 have k0:ropPV .cat [PV.row 0 [],pRow encL (D.take j)]=some (pRow encL (D.take j)):=r_cat0 encL _
 have k1:=r_catL (D.take j) (x0,x1,x2,x3)
 have k2:=r_catE encL (D.take j++[(x0,x1,x2,x3)]) (D.drop j)
 have q1:=Zgi encL (D.take j) 4 rfl (by simp;omega)
 have q2:=Zgi encL (D.drop j) 4 rfl (by simp;omega)
 have l1:(D.take j).length<=999999:=by simp;omega
 have l2:(D.take j++[(x0,x1,x2,x3)]).length<=1000000:=by simp;omega
 have l3:(D.take j++[(x0,x1,x2,x3)]++D.drop j).length<=2000000:=by simp;omega
 by_cases hjp:j < p
 ·have ha:=hb j hlt hjp
  have hnn:True:=trivial
  by_cases d2:D[j].2.1=x1
  ·have dg:¬ (x1 < D[j].2.1):=by omega
   have dle:¬ (x0 < D[j].1):=fun h=>by simp [Zbo,d2,h] at ha
   refine Zad names_ok mixed_ok (Zae _) gL010 hin ?_ ?_
   ·simp [Zab,Zaa,Base.ev,SX.ev,evs,Value.oneCell',Zac,binPV,c0',c1',c2',c3',ix,ix1,ix2,v3,hlt,d2,dg,dle,lenL]
    all_goals omega
   ·intro qs a1 w1 hq h1
    refine ⟨fun _=>.inl ⟨rfl,p - (j+1),by omega,j+1,by omega,rfl,?_⟩,fun h=>absurd rfl h⟩
    simp [evs,SX.ev,binPV,v3] at hq
    subst hq
    exact h1
  ·have dg:¬ (x1 < D[j].2.1):=fun h=>by simp [Zbo,h] at ha
   refine Zad names_ok mixed_ok (Zae _) gL00 hin ?_ ?_
   ·simp [Zab,Zaa,Base.ev,SX.ev,evs,Value.oneCell',Zac,binPV,c0',c1',c2',c3',ix,ix1,ix2,v3,hlt,d2,dg,lenL]
    all_goals omega
   ·intro qs a1 w1 hq h1
    refine ⟨fun _=>.inl ⟨rfl,p - (j+1),by omega,j+1,by omega,rfl,?_⟩,fun h=>absurd rfl h⟩
    simp [evs,SX.ev,binPV,v3] at hq
    subst hq
    exact h1
 ·have hje:j=p:=by omega
  subst hje
  generalize hT:D.take j=T at *
  generalize hE:D.drop j=E at *
  generalize hTX:T++[(x0,x1,x2,x3)]=TX at *
  generalize hTE:TX++E=TE at *
  by_cases dg:x1 < D[j].2.1
  ·refine Zad names_ok mixed_ok (Zae _) gL1 hin ?_ ?_
   ·simp [Zab,Zaa,Base.ev,SX.ev,evs,Value.oneCell',Zac,binPV,c0',c1',c2',c3',ix,ix1,ix2,v3,hlt,dg,lenL,rm0,rmj,s1,s2,k0,k1,k2,q1,q2]
    exact ⟨⟨0,rfl,by omega,by omega⟩,⟨0,rfl⟩,by omega,by omega,by omega,by omega⟩
   ·intro qs a1 w1 hq h1
    simp [evs,SX.ev,lenL,rm0,rmj,s1,s2,k0,k1,k2] at hq
    subst hq
    exact ⟨nofun,fun _=>.inr (.inr ⟨rfl,hQ _ _ h1⟩)⟩
  ·have d2:D[j].2.1=x1:=by simp [Zbo,dg] at he;exact he.1
   have d1:x0 < D[j].1:=by simp [Zbo,dg] at he;exact he.2
   refine Zad names_ok mixed_ok (Zae _) gL011 hin ?_ ?_
   ·simp [Zab,Zaa,Base.ev,SX.ev,evs,Value.oneCell',Zac,binPV,c0',c1',c2',c3',ix,ix1,ix2,v3,hlt,dg,d1,d2,lenL,rm0,rmj,s1,s2,k0,k1,k2,q1,q2]
    exact ⟨⟨0,rfl,by omega,by omega⟩,⟨0,rfl⟩,by omega,by omega,by omega,by omega⟩
   ·intro qs a1 w1 hq h1
    simp [evs,SX.ev,lenL,rm0,rmj,s1,s2,k0,k1,k2] at hq
    subst hq
    exact ⟨nofun,fun _=>.inr (.inr ⟨rfl,hQ _ _ h1⟩)⟩
set_option maxHeartbeats 4000000 in
theorem loopO (C:Base) (D:List LeM) (x0 x1 x2 x3:Int) (hD:D.length<=999999) (h0:D ≠ []) (hb:∀ j (h:j < D.length),Zbo (x0,x1,x2,x3) D[j]=false) (Q:Exit->Act->World->Prop)
  (hQ:∀ a w,Zag C shR [pRow encL (D++[(x0,x1,x2,x3)])] a w->Q .ret a w) {a:Act} {w:World} (h1:Zag C shO [pI 0,pI x0,pI x1,pI x2,pI x3,pRow encL D] a w) :
  wpL Try.prog (.block (Zaf (nth flG 5)) (.loop (Zah (nth flG 5))) :: flG.drop 6) Q a w:=by
 refine Zas (fun n a w=>∃ j:Nat,j<=D.length/\n=D.length - j/\Zag C shO [pI (j:Int),pI x0,pI x1,pI x2,pI x3,pRow encL D] a w) ?_ (n:=D.length) ⟨0,by omega,by omega,h1⟩
 rintro n a w ⟨j,hj,rfl,hin⟩
 show wpL Try.prog lpH _ a w
 rw [<- List.append_nil lpH]
 by_cases hlt:j < D.length
 ·obtain ⟨c0',c1',c2',c3'⟩:=cellL D j hlt
  have ix:=Zan encL D j 4 4 .i64 rfl hlt (by decide)
  have ix1:=Zan encL D j 4 1 .i64 rfl hlt (by decide)
  have ix2:=Zan encL D j 4 2 .i64 rfl hlt (by decide)
  have v3:IntKind.i64.wrap ((j:Int)+1)=(j:Int)+1:=wrapI _ (by omega) (by omega)
  have ha:=hb j hlt
  by_cases d2:D[j].2.1=x1
  ·have dg:¬ (x1 < D[j].2.1):=by omega
   have dle:¬ (x0 < D[j].1):=fun h=>by simp [Zbo,d2,h] at ha
   refine Zad names_ok mixed_ok (Zae _) g010 hin ?_ ?_
   ·simp [Zab,Zaa,Base.ev,SX.ev,evs,Value.oneCell',Zac,binPV,c0',c1',c2',c3',ix,ix1,ix2,v3,hlt,d2,dg,dle,lenL]
    all_goals omega
   ·intro qs a1 w1 hq h1
    refine ⟨fun _=>.inl ⟨rfl,D.length - (j+1),by omega,j+1,by omega,rfl,?_⟩,fun h=>absurd rfl h⟩
    simp [evs,SX.ev,binPV,v3] at hq
    subst hq
    exact h1
  ·have dg:¬ (x1 < D[j].2.1):=fun h=>by simp [Zbo,h] at ha
   refine Zad names_ok mixed_ok (Zae _) g00 hin ?_ ?_
   ·simp [Zab,Zaa,Base.ev,SX.ev,evs,Value.oneCell',Zac,binPV,c0',c1',c2',c3',ix,ix1,ix2,v3,hlt,d2,dg,lenL]
    all_goals omega
   ·intro qs a1 w1 hq h1
    refine ⟨fun _=>.inl ⟨rfl,D.length - (j+1),by omega,j+1,by omega,rfl,?_⟩,fun h=>absurd rfl h⟩
    simp [evs,SX.ev,binPV,v3] at hq
    subst hq
    exact h1
 ·have hje:j=D.length:=by omega
  subst hje
  refine Zad names_ok mixed_ok (Zae _) exO hin ?_ ?_
  ·simp [Base.ev,SX.ev,evs,Value.oneCell',binPV,lenL]
  ·intro qs a1 w1 hq h1
   refine ⟨nofun,fun _=>.inr (.inl ⟨by rw [show Zaf (nth flG 5)=2 by kernel_rfl];rfl,?_⟩)⟩
   simp [evs,SX.ev] at hq
   subst hq
   rw [<- List.append_nil (flG.drop 6)]
   have k1:=r_catL D (x0,x1,x2,x3)
   have l1:(D++[(x0,x1,x2,x3)]).length<=1000000:=by simp;omega
   generalize D++[(x0,x1,x2,x3)]=DX at *
   refine Zad names_ok mixed_ok (Zae _) pO h1 ?_ ?_
   ·simp [Zab,Zaa,Base.ev,SX.ev,evs,Value.oneCell',Zac,lenL,k1]
    all_goals omega
   ·intro qs a2 w2 hq h2
    simp [evs,SX.ev,k1] at hq
    subst hq
    exact ⟨nofun,fun _=>hQ _ _ h2⟩
set_option maxHeartbeats 4000000 in
theorem loopN (C:Base) (x0 x1 x2 x3:Int) (Q:Exit->Act->World->Prop)
  (hQ:∀ a w,Zag C shR [pRow encL [(x0,x1,x2,x3)]] a w->Q .ret a w) {a:Act} {w:World} (h1:Zag C shN [pI 0,pI x0,pI x1,pI x2,pI x3] a w) :
  wpL Try.prog (.block (Zaf (nth flG 5)) (.loop (Zah (nth flG 5))) :: flG.drop 6) Q a w:=by
 refine Zas (fun n a w=>Zag C shN [pI 0,pI x0,pI x1,pI x2,pI x3] a w) ?_ (n:=0) h1
 intro n a w hin
 show wpL Try.prog lpH _ a w
 rw [<- List.append_nil lpH]
 refine Zad names_ok mixed_ok (Zae _) exN hin ?_ ?_
 ·simp [Base.ev,SX.ev,evs,Value.oneCell',binPV,lenL]
 ·intro qs a1 w1 hq h1
  refine ⟨nofun,fun _=>.inr (.inl ⟨by rw [show Zaf (nth flG 5)=2 by kernel_rfl];rfl,?_⟩)⟩
  simp [evs,SX.ev] at hq
  subst hq
  rw [<- List.append_nil (flG.drop 6)]
  have k1:=one_rowL (x0,x1,x2,x3)
  refine Zad names_ok mixed_ok (Zae _) pN h1 ?_ ?_
  ·simp [Zab,Zaa,Base.ev,SX.ev,evs,Value.oneCell',Zac,lenL,k1]
  ·intro qs a2 w2 hq h2
   simp [evs,SX.ev,k1] at hq
   subst hq
   exact ⟨nofun,fun _=>hQ _ _ h2⟩
set_option maxHeartbeats 4000000 in
theorem toldGq (k:Nat):ToldF 57 (EGq k) (spec RGq):=by
 refine Zcy F _ (Za1 Try.prog 57) Try.func57 (by kernel_rfl) shG (by kernel_rfl) ?_ ?_
 ·intro ps qs h
  obtain ⟨l,x,_,rfl,rfl⟩:=Zal h
  exact Zb3 rfl
 ·intro C ps qs hF h a w hsh
  obtain ⟨l,x,hl,rfl,rfl⟩:=Zal h
  have g1:=F1 (l:=l) (c:=x.1) (f:=x.2.1) (by omega)
  have hdl:(dropL l x.1 x.2.1).length<=l.length:=List.length_filter_le _ _
  have hk:=merge_keys l x
  have hgq:grantQ l x=putQ (dropL l x.1 x.2.1) (Zeh l x):=rfl
  rw [hgq] at h ⊢
  have hms:=fun i (h:i < l.length)=>merge_step h x
  obtain ⟨m,hm0,hm⟩:∃ m:Nat->LeM,m 0=x/\∀ i,m i=Zeh (l.take i) x:=⟨fun i=>Zeh (l.take i) x,rfl,fun _=>rfl⟩
  have hml:m l.length=Zeh l x:=by rw [hm,List.take_length]
  simp only [<- hm] at hms
  rw [<- hml] at h hk ⊢
  obtain ⟨y0,y1,y2,y3⟩:=x
  simp only [p4] at *
  show wpL Try.prog flG _ a w
  rw [cutG]
  refine Zad names_ok mixed_ok (Zae _) pre hsh ?_ ?_
  ·simp [Base.ev,SX.ev,evs,Value.oneCell',Zac]
  ·intro qs a1 w1 hq h1
   refine ⟨fun _=>?_,fun h=>absurd rfl h⟩
   simp [evs,SX.ev,Zac] at hq
   subst hq
   refine Zas (fun n a w=>∃ i,i<=l.length/\n=l.length - i/\Zag C shA [pRow encL l,pI (i:Int),pI (m i).1,pI (m i).2.1,pI (m i).2.2.1,pI (m i).2.2.2] a w) ?_ (n:=l.length) ⟨0,by omega,by omega,by rw [hm0];exact h1⟩
   rintro n a w ⟨i,hi,rfl,hin⟩
   show wpL Try.prog lpG _ a w
   rw [<- List.append_nil lpG]
   by_cases hlt:i < l.length
   ·obtain ⟨c0',c1',c2',c3'⟩:=cellL l i hlt
    have ix:=Zan encL l i 4 4 .i64 rfl hlt (by decide)
    have ix1:=Zan encL l i 4 1 .i64 rfl hlt (by decide)
    have ix2:=Zan encL l i 4 2 .i64 rfl hlt (by decide)
    have ix3:=Zan encL l i 4 3 .i64 rfl hlt (by decide)
    have v3:IntKind.i64.wrap ((i:Int)+1)=(i:Int)+1:=wrapI _ (by omega) (by omega)
    have hst:=hms i hlt
    generalize hX:m i=X at hst hin
    obtain ⟨x0,x1,x2,x3⟩:=X
    simp only at hin
    by_cases d1:l[i].1=x0
    ·by_cases d2:l[i].2.1=x1
     ·refine Zad names_ok mixed_ok (Zae _) l11 hin ?_ ?_
      ·simp [Zab,Zaa,Base.ev,SX.ev,evs,Value.oneCell',Zac,binPV,c0',c1',c2',c3',ix,ix1,ix2,ix3,v3,hlt,d1,d2,lenL,r_max]
      ·intro qs a1 w1 hq h1
       refine ⟨fun _=>.inl ⟨rfl,l.length - (i+1),by omega,i+1,by omega,rfl,?_⟩,fun h=>absurd rfl h⟩
       simp [evs,SX.ev,binPV,v3,c2',c3',r_max] at hq
       subst hq
       rw [hst,oneQ,if_pos ⟨d1,d2⟩]
       exact h1
     ·refine Zad names_ok mixed_ok (Zae _) l10 hin ?_ ?_
      ·simp [Zab,Zaa,Base.ev,SX.ev,evs,Value.oneCell',Zac,binPV,c0',c1',c2',c3',ix,ix1,ix2,ix3,v3,hlt,d1,d2,lenL]
      ·intro qs a1 w1 hq h1
       refine ⟨fun _=>.inl ⟨rfl,l.length - (i+1),by omega,i+1,by omega,rfl,?_⟩,fun h=>absurd rfl h⟩
       simp [evs,SX.ev,binPV,v3] at hq
       subst hq
       rw [hst,oneQ,if_neg (fun h=>d2 h.2)]
       exact h1
    ·refine Zad names_ok mixed_ok (Zae _) l0 hin ?_ ?_
     ·simp [Zab,Zaa,Base.ev,SX.ev,evs,Value.oneCell',Zac,binPV,c0',c1',c2',c3',ix,ix1,ix2,ix3,v3,hlt,d1,lenL]
     ·intro qs a1 w1 hq h1
      refine ⟨fun _=>.inl ⟨rfl,l.length - (i+1),by omega,i+1,by omega,rfl,?_⟩,fun h=>absurd rfl h⟩
      simp [evs,SX.ev,binPV,v3] at hq
      subst hq
      rw [hst,oneQ,if_neg (fun h=>d1 h.1)]
      exact h1
   ·have hie:i=l.length:=by omega
    subst hie
    obtain ⟨k0,k1⟩:=hk
    generalize m l.length=X at *
    obtain ⟨x0,x1,x2,x3⟩:=X
    simp only at hin k0 k1
    subst k0 k1
    generalize dropL l x0 x1=D at *
    refine Zad names_ok mixed_ok (Zae _) ex hin ?_ ?_
    ·simp [Base.ev,SX.ev,evs,Value.oneCell',binPV,lenL]
    ·intro qs a1 w1 hq h1
     refine ⟨nofun,fun _=>.inr (.inl ⟨by rw [show Zaf (nth flG 2)=0 by kernel_rfl];rfl,?_⟩)⟩
     simp [evs,SX.ev] at hq
     subst hq
     have done:∀ (a:Act) (w:World),Zag C shR [pRow encL (putQ D (x0,x1,x2,x3))] a w->(Exit.ret=.normal \/ Exit.ret=.ret)/\∃ sh' ps' es,Zag C sh' ps' a w/\resTo Try.prog Try.f57 sh' (EGq k)=some es/\evs (fun i=>ps'[i]?) F es=some [pRow encL (putQ D (x0,x1,x2,x3))]:=fun a w h2 =>
      ⟨.inr rfl,shR,_,[.var 0],h2,by kernel_rfl,by simp [evs,SX.ev]⟩
     by_cases hex:∃ y ∈ D,Zbo (x0,x1,x2,x3) y=true
     ·have hp:D.findIdx (Zbo (x0,x1,x2,x3)) < D.length:=List.findIdx_lt_length.2 hex
      refine Zad names_ok mixed_ok (Zae _) midL h1 ?_ ?_
      ·simp [Zab,Zaa,Base.ev,SX.ev,evs,Value.oneCell',hF,g1,lgq.x1r,lenL]
      ·intro qs a2 w2 hq h2
       refine ⟨fun _=>?_,fun h=>absurd rfl h⟩
       simp [evs,SX.ev,hF,g1] at hq
       subst hq
       refine loopL C D x0 x1 x2 x3 (by omega) _ hp (fun j hj hjp=>?_) (List.findIdx_getElem (w:=hp)) _ _ (fun a w h3=>done a w h3) h2
       simpa using List.not_of_lt_findIdx hjp
     ·have hno:∀ j (h:j < D.length),Zbo (x0,x1,x2,x3) D[j]=false:=fun j hj=>by
       cases hc:Zbo (x0,x1,x2,x3) D[j] with
       | false=>rfl
       | true=>exact absurd ⟨_,List.getElem_mem hj,hc⟩ hex
      have hpu:putQ D (x0,x1,x2,x3)=D++[(x0,x1,x2,x3)]:=by
       have:D.findIdx (Zbo (x0,x1,x2,x3))=D.length:=List.findIdx_eq_length.2 fun y hy=>by
        cases hc:Zbo (x0,x1,x2,x3) y with
        | false=>rfl
        | true=>exact absurd ⟨y,hy,hc⟩ hex
       rw [putQ,this,List.take_length,List.drop_length,List.append_nil]
      rw [hpu] at done
      rw [hpu]
      cases D with
      | nil =>
       refine Zad names_ok mixed_ok (Zae _) midN h1 ?_ ?_
       ·simp [Zab,Zaa,Base.ev,SX.ev,evs,Value.oneCell',hF,g1,lgq.x1,lenL]
       ·intro qs a2 w2 hq h2
        refine ⟨fun _=>?_,fun h=>absurd rfl h⟩
        simp [evs,SX.ev] at hq
        subst hq
        exact loopN C x0 x1 x2 x3 _ (fun a w h3=>done a w h3) h2
      | cons z r =>
       have hne:z :: r ≠ []:=by simp
       have hpos:0 < (z :: r).length:=by simp
       generalize z :: r=D at *
       refine Zad names_ok mixed_ok (Zae _) midO h1 ?_ ?_
       ·simp [Zab,Zaa,Base.ev,SX.ev,evs,Value.oneCell',hF,g1,lgq.x1,lenL]
        all_goals omega
       ·intro qs a2 w2 hq h2
        refine ⟨fun _=>?_,fun h=>absurd rfl h⟩
        simp [evs,SX.ev,hF,g1] at hq
        subst hq
        exact loopO C D x0 x1 x2 x3 (by omega) hne hno _ (fun a w h3=>done a w h3) h2
end Go.Proofs.Ytcaclmdkhffegaa.lgq
