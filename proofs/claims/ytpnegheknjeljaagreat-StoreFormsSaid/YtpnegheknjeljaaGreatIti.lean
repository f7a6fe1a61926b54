/- Take of package image: told. -/
import Derived.Test.YtpnegheknjeljaaGreatIrm
import Derived.Test.YtpnegheknjeljaaGreatIjn
namespace Go.Proofs.YtpnegheknjeljaaGreat.iti
open Go Go.RowKit eng SX Fact fil ima symD sta ise idf ieq ijn irs bip ird
open dirs (encF cellF FileM)
open fileFronts (Zac)
set_option linter.unusedVariables false
set_option linter.unusedSimpArgs false
set_option maxRecDepth 1000000

def ETi (k:Nat):FnE:={ k:=k,ins:=[none],leaks:=[false],outs:=[some 3,none],kinds:=[.row,.row,.num,.truth] }
def tabTF (f:FuncId):Option FnE:=cond (Nat.beq f 120) (some (EJn 1)) (cond (Nat.beq f 122) (some (ESq 2)) none)
def tabTX (f:FuncId):Option (FnE × List Value):=cond (Nat.beq f 119) (some (EMf 3,[pvMf])) (cond (Nat.beq f 105) (some (ESec 4,[pvSe])) none)
def tabTQ (f:FuncId):Option (PtrE × List Value):=cond (Nat.beq f 121) (some (irs.ESt 5,[pvRd,anyV])) none
def orcT:Orc:=orcOr (orcFn tabTF) (orcOr (orcX tabTX) (orcQ tabTQ))
def isCv:Op->Bool | .convert ..=>true | _=>false
def hCv (_:FuncId) (o:Oper):Option Hint:=cond (isCv o.op) (some .still) none
@[simp] def Zbn:SX:=rop ROp.ofStr [.fn 1 [.var 0,.con (.string { data:={ toList:=[] } })] 0]
@[simp] def Zcx:List SX:=[.var 0,.con (.string { data:={ toList:=[] } })]
@[simp] def Zdi:List SX:=[.fn 5 [Zbn] 1,.fn 5 [Zbn] 2,.fn 5 [Zbn] 3]
@[simp] def Zjf:Fact:=Fact.fq 121 (irs.ESt 5) [pvRd,.tuple { toList:=[] }] [Zbn]
@[simp] def Zje:List SX:=[.lit 0 [],.lit 0 [],.con (.int .i64 0),.con (.bool false)]
@[simp] def Zjd:Fact:=upto (.slen (.fn 1 Zcx 0)) 4294967296
@[simp] def Zgt:Fact:=Fact.fx 119 (EMf 3) [pvMf] [.var 0]
@[simp] def Zjc:Fact:=.is (.fn 3 [.var 0] 0) (.int .i64 0)
theorem t1:runTo Tryz.prog orcT 10000 80 (ETi 6) [.row] [1] hCv=some ([Zgt,.is (.fn 3 [.var 0] 0) (.int .i64 1)],Zje):=by kernel_rfl
theorem t2:runTo Tryz.prog orcT 10000 80 (ETi 6) [.row] [0,1] hCv=some ([Zgt,Zjc,.fn 120 (EJn 1) Zcx,.ok (.fn 1 Zcx 0),Zjd,Zjf,.is (.fn 5 [Zbn] 0) (.int .i64 1)],Zje):=by kernel_rfl
theorem t2u:runTo Tryz.prog orcT 10000 80 (ETi 6) [.row] [0,2] hCv=some ([Zgt,Zjc,.fn 120 (EJn 1) Zcx,.ok (.fn 1 Zcx 0),Zjd,Zjf,.is (.fn 5 [Zbn] 0) (.int .i64 2)],Zje):=by kernel_rfl
theorem t4:runTo Tryz.prog orcT 10000 80 (ETi 6) [.row] [0,0,0,0] hCv=some ([Zgt,Zjc,.fn 120 (EJn 1) Zcx,.ok (.fn 1 Zcx 0),Zjd,Zjf,.is (.fn 5 [Zbn] 0) (.int .i64 0),.ok (.fn 5 [Zbn] 3),Fact.fx 105 (ESec 4) [pvSe] Zdi,.is (.fn 4 Zdi 0) (.int .i64 0),.fn 122 (ESq 2) [.fn 4 Zdi 1,.var 0],.is (.fn 2 [.fn 4 Zdi 1,.var 0] 0) (.bool false)],Zje):=by kernel_rfl
theorem t5:runTo Tryz.prog orcT 10000 80 (ETi 6) [.row] [0,0,0,1] hCv=some ([Zgt,Zjc,.fn 120 (EJn 1) Zcx,.ok (.fn 1 Zcx 0),Zjd,Zjf,.is (.fn 5 [Zbn] 0) (.int .i64 0),.ok (.fn 5 [Zbn] 3),Fact.fx 105 (ESec 4) [pvSe] Zdi,.is (.fn 4 Zdi 0) (.int .i64 0),.fn 122 (ESq 2) [.fn 4 Zdi 1,.var 0],.is (.fn 2 [.fn 4 Zdi 1,.var 0] 0) (.bool true)],[.fn 5 [Zbn] 1,.fn 5 [Zbn] 2,.fn 5 [Zbn] 3,.con (.bool true)]):=by kernel_rfl

@[simp] theorem holds_fxT (B:Base) (f:FuncId) (E:FnE) (pans:List Value) (es:List SX):(Fact.fx f E pans es).holds B ↔ ToldX f E pans (B.F E.k)/\∃ ps qs,evs B.s B.F es=some ps/\B.F E.k ps=some qs:=Iff.rfl
@[simp] theorem kTi (k:Nat):(ETi k).k=k:=rfl
@[simp] theorem kSeT (k:Nat):(ESec k).k=k:=rfl
@[simp] theorem kStT (k:Nat):(irs.ESt k).k=k:=rfl
noncomputable def FT:Fns:=fun k=>match k with | 1=>spec RJn | 2=>spec RSq | 3=>spec RMf | 4=>spec RSec | 5=>spec RRs | _=>fun _=>none
theorem pt1:ToldF 120 (EJn 1) (FT 1):=toldJn 1
theorem pt2:ToldF 122 (ESq 2) (FT 2):=toldSq 2
theorem pt3:ToldX 119 (EMf 3) [pvMf] (FT 3):=toldMf 3
theorem pt4:ToldX 105 (ESec 4) [pvSe] (FT 4):=toldSec 4
theorem pt5:ToldQ 121 (irs.ESt 5) [pvRd,.tuple { toList:=[] }] (FT 5):=toldSt 5
def ansT:Option StM->List PV
 | some s=>pSt s++[pB true]
 | none=>[.row 0 [],.row 0 [],pI 0,pB false]
def mayR (l:List ByteArray):Prop:=∀ s r,rdS (catB l)=.ok (s,r)->MayS s
def RTi (ps qs:List PV):Prop:=∃ l:List ByteArray,l.length<=30000/\mayR l/\ps=[pRow encS l]/\qs=ansT (takeI l)
theorem fTi:∀ ps q1 q2,RTi ps q1->RTi ps q2->q1=q2:=by
 rintro ps q1 q2 ⟨l,_,_,rfl,rfl⟩ ⟨l',_,_,h,rfl⟩
 simp only [List.cons.injEq,and_true] at h
 rw [fil.pRow_inj Zg6 h]
theorem full_iff {l:List ByteArray}:full l=true ↔ ∀ a ∈ l,a.size=32:=by simp [full]
set_option maxHeartbeats 2000000 in
theorem toldTi (k:Nat):ToldF 80 (ETi k) (spec RTi):=by
 refine Zgh mixed_ok names_ok FT [.row] ?_
 intro ps qs h _
 obtain ⟨l,hl,hmr,rfl,rfl⟩:=Zah h
 have ok:OrcOk Tryz.prog orcT:=Zjy (Zar tabTF) (Zjy (Zil tabTX) (Zck tabTQ))
 have g3:FT 3 [pRow encS l]=some (if full l=true then [pI 0] else [pI 1]):=Zap fMf ⟨l,by omega,rfl,rfl⟩
 cases hf:full l with
 | false =>
  rw [hf,if_neg (by simp)] at g3
  have hn:takeI l=none:=take_full fun h=>by rw [full_iff.2 h] at hf;cases hf
  rw [hn]
  refine ⟨_,_,_,_,_,_,ok,t1,fun w FP=>?_,?_⟩
  ·simp [-Zac,Zab,Zaa,Base.ev,SX.ev,evs,Value.oneCell',g3,pt3]
  ·simp [evs,SX.ev,ansT]
 | true =>
  rw [hf,if_pos rfl] at g3
  have g1:FT 1 [pRow encS l,pS ⟨⟨[]⟩⟩]=some [pS (ofL (catB l))]:=Zap fJn ⟨l,by omega,hf,rfl,rfl⟩
  have ro:ropPV .ofStr [pS (ofL (catB l))]=some (pBy (catB l)):=Zov _
  have hcl:=Zmi l hf
  have hsz:(ofL (catB l)).size=32 * l.length:=by rw [ofL_size,hcl]
  obtain ⟨z,hz⟩:∃ z:Nat,z=32 * l.length:=⟨_,rfl⟩
  rw [<- hz] at hsz
  have g5:FT 5 [pBy (catB l)]=some (ansE (nB 4 (catB l))):=Zap fRs ⟨catB l,by omega,rfl,rfl⟩
  cases hr:rdS (catB l) with
  | error e =>
   have hn:=take_err hr
   obtain ⟨he,ha⟩:=ans_err hr
   rw [ha] at g5
   rw [hn]
   obtain ⟨j,r⟩:=e
   generalize ofL (catB l)=t at *
   generalize catB l=b at *
   rcases he with he | he
   ·simp only at he
    subst he
    refine ⟨_,_,_,_,_,_,ok,t2,fun w FP=>?_,?_⟩
    ·simp [-Zac,Zab,Zaa,Base.ev,SX.ev,evs,Value.oneCell',g3,g1,ro,g5,Zbc,hsz,pt1,pt3,pt5]
     all_goals omega
    ·simp [evs,SX.ev,ansT]
   ·simp only at he
    subst he
    refine ⟨_,_,_,_,_,_,ok,t2u,fun w FP=>?_,?_⟩
    ·simp [-Zac,Zab,Zaa,Base.ev,SX.ev,evs,Value.oneCell',g3,g1,ro,g5,Zbc,hsz,pt1,pt3,pt5]
     all_goals omega
    ·simp [evs,SX.ev,ansT]
  | ok p =>
   obtain ⟨s,r⟩:=p
   have hs:=hmr s r hr
   have ht:=take_ok hr
   rw [ans_ok hr] at g5
   have g5:FT 5 [pBy (catB l)]=some [pI 0,pRow encF s.files,pRow encM s.marks,pI s.epoch,pBy r]:=g5
   have g4:FT 4 [pRow encF s.files,pRow encM s.marks,pI s.epoch]=some (if mayS s=true then [pI 0,pRow encS (putI s)] else [pI 1]):=Zap fSec ⟨s,may_pre hs,rfl,rfl⟩
   rw [Zmd.2 hs,if_pos rfl] at g4
   have g2:FT 2 [pRow encS (putI s),pRow encS l]=some [pB (sameL (putI s) l)]:=Zap fSq ⟨putI s,l,by rw [Zkv hs];omega,by omega,rfl,rfl⟩
   clear hr hmr
   by_cases he:putI s=l
   ·rw [sameL_yes he] at g2
    rw [if_pos ⟨hs,he⟩] at ht
    rw [ht]
    clear he ht hf hs
    generalize ofL (catB l)=t at *
    generalize catB l=b at *
    generalize putI s=x at *
    refine ⟨_,_,_,_,_,_,ok,t5,fun w FP=>?_,?_⟩
    ·simp [-Zac,Zab,Zaa,Base.ev,SX.ev,evs,Value.oneCell',g3,g1,ro,g5,g4,g2,Zbc,hsz,pt1,pt2,pt3,pt4,pt5]
     all_goals omega
    ·simp [evs,SX.ev,ansT,pSt,g1,ro,g5]
   ·rw [Zou he] at g2
    rw [if_neg (fun h=>he h.2)] at ht
    rw [ht]
    clear he ht hf hs
    generalize ofL (catB l)=t at *
    generalize catB l=b at *
    generalize putI s=x at *
    refine ⟨_,_,_,_,_,_,ok,t4,fun w FP=>?_,?_⟩
    ·simp [-Zac,Zab,Zaa,Base.ev,SX.ev,evs,Value.oneCell',g3,g1,ro,g5,g4,g2,Zbc,hsz,pt1,pt2,pt3,pt4,pt5]
     all_goals omega
    ·simp [evs,SX.ev,ansT]

end Go.Proofs.YtpnegheknjeljaaGreat.iti
