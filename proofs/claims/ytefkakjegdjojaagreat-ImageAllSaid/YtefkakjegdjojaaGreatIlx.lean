/- What the laws of images share: what they begin with. -/
import Derived.Test.YtefkakjegdjojaaGreatItc
import Derived.Test.YtefkakjegdjojaaGreatIpd
import Derived.Test.YtefkakjegdjojaaGreatSlc
import Derived.Test.YtefkakjegdjojaaGreatSmc
namespace Go.Proofs.YtefkakjegdjojaaGreat.ilx
open Go Go.RowKit eng SX Fact fil ima symD sta ise idf ieq irs ipd
open itc (ETj RTj fTj kTc)
open iti (ansT)
open dirs (encF cellF FileM)
open fileFronts (Zae)
open pck hiding F F20 F21
set_option linter.unusedVariables false
set_option linter.unusedSimpArgs false
set_option maxRecDepth 1000000

def ESmT (k:Nat):FnE:={ k:=k,ins:=[some 3,some 3],leaks:=[false,false,false,false,false,false],outs:=[none],kinds:=[.truth] }
def tabB (f:FuncId):Option FnE:=cond (Nat.beq f 22) (some (EPuI 1)) (cond (Nat.beq f 23) (some (ETj 2)) (cond (Nat.beq f 26) (some (EDfI 3)) (cond (Nat.beq f 45) (some (ENew 4)) (cond (Nat.beq f 20) (some (ESmT 5)) none))))
def hB (_:FuncId) (_:Oper):Option Hint:=some .parts
@[simp] def Zb1:SX:=.fn 1 [.fn 4 [] 0,.fn 4 [] 1,.fn 4 [] 2] 0
@[simp] def zGreatIlx2:List SX:=[.fn 2 [Zb1] 0,.fn 2 [Zb1] 1,.fn 2 [Zb1] 2,.fn 4 [] 0,.fn 4 [] 1,.fn 4 [] 2]
@[simp] def zGreatIlx3:SX:=.bin .eql (.len (.fn 3 [Zb1,Zb1] 0)) (.con (.int .i64 0))
theorem bg:runTo Tryz.prog (orcFn tabB) 10000 21 (ETrue 6) [] [1,0,1,1,1] hB=some ([.fn 45 (ENew 4) [],.ok (.fn 4 [] 2),.fn 22 (EPuI 1) [.fn 4 [] 0,.fn 4 [] 1,.fn 4 [] 2],.fn 23 (ETj 2) [Zb1],.ok (.fn 2 [Zb1] 2),.is (.fn 2 [Zb1] 3) (.bool true),.fn 23 (ETj 2) [.lit 0 []],.ok (.fn 2 [.lit 0 []] 2),.is (.fn 2 [.lit 0 []] 3) (.bool false),.ok (.len Zb1),.ok (.bin .eql (.len Zb1) (.con (.int .i64 9))),.is (.bin .eql (.len Zb1) (.con (.int .i64 9))) (.bool true),.fn 45 (ENew 4) [],.ok (.fn 4 [] 2),.fn 20 (ESmT 5) zGreatIlx2,.is (.fn 5 zGreatIlx2 0) (.bool true),.fn 26 (EDfI 3) [Zb1,Zb1],.ok (.len (.fn 3 [Zb1,Zb1] 0)),.ok zGreatIlx3,.is zGreatIlx3 (.bool true)],[.con (.bool true)]):=by kernel_rfl

@[simp] theorem kDfB (k:Nat):(EDfI k).k=k:=rfl
@[simp] theorem kPuB2 (k:Nat):(EPuI k).k=k:=rfl
@[simp] theorem kTjB (k:Nat):(ETj k).k=k:=rfl
@[simp] theorem kSmTB (k:Nat):(ESmT k).k=k:=rfl
noncomputable def FB:Fns:=fun k=>match k with | 1=>spec RPuI | 2=>spec RTj | 3=>spec RDfI | 4=>spec sta.RNew | 5=>spec RSmS | _=>fun _=>none
theorem pb1:ToldF 22 (EPuI 1) (FB 1):=toldPuI 1
theorem pb2:ToldF 23 (ETj 2) (FB 2):=itc.toldTj 2
theorem pb3:ToldF 26 (EDfI 3) (FB 3):=toldDfI 3
theorem pb4:ToldF 45 (ENew 4) (FB 4):=sta.toldNew 4
theorem pb5:ToldF 20 (ESmT 5) (FB 5):=Zgo (toldSmD 5) rfl rfl rfl rfl rfl
theorem take_nil:takeI []=none:=by simp [takeI]
theorem msm {s:StM} (h:MayS s):s.files.length<=1000000/\s.marks.length<=1000000:=by rw [h.fl,h.ml];omega
theorem put_eq {s:StM} (h:MayS s) (F:Fns) (k:Nat) (hF:F k=spec RPuI):F k [pRow encF s.files,pRow encM s.marks,pI s.epoch]=some [pRow encS (putI s)]:=by rw [hF];exact Zal fPuI ⟨s,may_pre h,rfl,rfl⟩
theorem take_eq {s:StM} (h:MayS s) (F:Fns) (k:Nat) (hF:F k=spec RTj):F k [pRow encS (putI s)]=some [pRow encF s.files,pRow encM s.marks,pI s.epoch,pB true]:=by
 rw [hF]
 exact Zal fTj ⟨putI s,by rw [Ze7 h];omega,rfl,by rw [takeI_put h];rfl⟩
theorem take_eq0 (F:Fns) (k:Nat) (hF:F k=spec RTj):F k [.row 0 []]=some [.row 0 [],.row 0 [],pI 0,pB false]:=by
 rw [hF]
 exact Zal fTj ⟨[],by simp,rfl,by rw [take_nil];rfl⟩
theorem difI_self (l:List ByteArray):difI l l=[]:=by rw [difI,if_pos rfl,diff_self]
theorem diff_eq' {l m:List ByteArray} (hl:l.length<=1000000) (hm:m.length<=1000000) (F:Fns) (k:Nat) (hF:F k=spec RDfI):F k [pRow encS l,pRow encS m]=some [pRow encQ (difI l m)]:=by rw [hF];exact Zal fDfI ⟨l,m,hl,hm,rfl,rfl⟩
theorem same_eq {s t:StM} (hs:MayS s) (ht:MayS t) (F:Fns) (k:Nat) (hF:F k=spec RSmS):F k [pRow encF s.files,pRow encM s.marks,pI s.epoch,pRow encF t.files,pRow encM t.marks,pI t.epoch]=some [pB (sameS s t)]:=by rw [hF];exact Zal fSmS ⟨s,t,(msm hs).1,(msm hs).2,(msm ht).1,(msm ht).2,rfl,rfl⟩
theorem toldBg (k:Nat):ToldF 21 (ETrue k) (spec RTrue):=by
 refine Ze5 Zac Zad FB [] ?_
 intro ps qs h _
 obtain ⟨rfl,rfl⟩:=Zaj h
 have g4:FB 4 []=some [pRow encF newS.files,pRow encM newS.marks,pI newS.epoch]:=Zal sta.fNew ⟨rfl,rfl⟩
 have hm:=Zub
 have g1:=put_eq hm FB 1 rfl
 have g2:=take_eq hm FB 2 rfl
 have g0:=take_eq0 FB 2 rfl
 have hl:(putI newS).length=9:=Ze7 hm
 have g3:=diff_eq' (l:=putI newS) (m:=putI newS) (by omega) (by omega) FB 3 rfl
 rw [difI_self] at g3
 have g5:=same_eq hm hm FB 5 rfl
 rw [sameS_iff.2 rfl] at g5
 have rl:=Zaf encS (putI newS)
 have r0:=Zaf encQ []
 rw [hl] at rl
 generalize putI newS=l at *
 generalize newS=s at *
 refine ⟨_,_,_,_,_,_,Zai tabB,bg,fun w FP=>?_,?_⟩
 ·simp [-Zae,Zab,Zaa,Base.ev,SX.ev,evs,Value.oneCell',g4,g1,g2,g0,g3,g5,rl,r0,binPV,pb1,pb2,pb3,pb4,pb5]
 ·simp [evs,SX.ev,g4,g1,g2,g3,g5,rl,r0,binPV]
theorem made30 {p:List Nat} (hp:p.length<=60) (hz:∀ z ∈ p,z < 256):∃ (s:StM) (n:Nat),MayS s/\spec RSt [pI 30,pRow encU p,pI 0]=some (pSt s++[pRow encU p,pI (n:Int)]):=by
 have okp:OkP p 0:=⟨by omega,by omega,hz⟩
 exact ⟨_,_,may_run 30 ts_new Zub (by omega) okp (by omega),Zal fSt ⟨30,0,p,by omega,okp,rfl,rfl⟩⟩

end Go.Proofs.YtefkakjegdjojaaGreat.ilx
