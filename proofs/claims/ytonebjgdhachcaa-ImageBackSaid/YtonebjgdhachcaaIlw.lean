/- What the laws of images share: what they begin with. -/
import Derived.Test.YtonebjgdhachcaaIti
import Derived.Test.YtonebjgdhachcaaIpd
import Derived.Test.YtonebjgdhachcaaSlc
import Derived.Test.YtonebjgdhachcaaSmc
namespace Go.Proofs.Ytonebjgdhachcaa.ilw
open Go Go.RowKit eng SX Fact fil ima symD sta ise idf ieq irs iti ipd
open dirs (encF cellF FileM)
open fileFronts (Zae)
open pck hiding F F20 F21
set_option linter.unusedVariables false
set_option linter.unusedSimpArgs false
set_option maxRecDepth 1000000

def ESmT (k:Nat):FnE:={ k:=k,ins:=[some 3,some 3],leaks:=[false,false,false,false,false,false],outs:=[none],kinds:=[.truth] }
def tabB (f:FuncId):Option FnE:=cond (Nat.beq f 29) (some (EPuI 1)) (cond (Nat.beq f 30) (some (ETi 2)) (cond (Nat.beq f 31) (some (EDfI 3)) (cond (Nat.beq f 27) (some (ENew 4)) (cond (Nat.beq f 17) (some (ESmT 5)) none))))
def hB (_:FuncId) (_:Oper):Option Hint:=some .parts
@[simp] def zIlw1:SX:=.fn 1 [.fn 4 [] 0,.fn 4 [] 1,.fn 4 [] 2] 0
@[simp] def zIlw2:List SX:=[.fn 2 [zIlw1] 0,.fn 2 [zIlw1] 1,.fn 2 [zIlw1] 2,.fn 4 [] 0,.fn 4 [] 1,.fn 4 [] 2]
@[simp] def zIlw3:SX:=.bin .eql (.len (.fn 3 [zIlw1,zIlw1] 0)) (.con (.int .i64 0))
theorem bg:runTo Try.prog (orcFn tabB) 10000 28 (ETrue 6) [] [1,0,1,1,1] hB=some ([.fn 27 (ENew 4) [],.ok (.fn 4 [] 2),.fn 29 (EPuI 1) [.fn 4 [] 0,.fn 4 [] 1,.fn 4 [] 2],.fn 30 (ETi 2) [zIlw1],.ok (.fn 2 [zIlw1] 2),.is (.fn 2 [zIlw1] 3) (.bool true),.fn 30 (ETi 2) [.lit 0 []],.ok (.fn 2 [.lit 0 []] 2),.is (.fn 2 [.lit 0 []] 3) (.bool false),.ok (.len zIlw1),.ok (.bin .eql (.len zIlw1) (.con (.int .i64 9))),.is (.bin .eql (.len zIlw1) (.con (.int .i64 9))) (.bool true),.fn 27 (ENew 4) [],.ok (.fn 4 [] 2),.fn 17 (ESmT 5) zIlw2,.is (.fn 5 zIlw2 0) (.bool true),.fn 31 (EDfI 3) [zIlw1,zIlw1],.ok (.len (.fn 3 [zIlw1,zIlw1] 0)),.ok zIlw3,.is zIlw3 (.bool true)],[.con (.bool true)]):=by kernel_rfl

@[simp] theorem kDfB (k:Nat):(EDfI k).k=k:=rfl
@[simp] theorem kPuB2 (k:Nat):(EPuI k).k=k:=rfl
@[simp] theorem kTiB (k:Nat):(ETi k).k=k:=rfl
@[simp] theorem kSmTB (k:Nat):(ESmT k).k=k:=rfl
noncomputable def FB:Fns:=fun k=>match k with | 1=>spec RPuI | 2=>spec RTi | 3=>spec RDfI | 4=>spec sta.RNew | 5=>spec RSmS | _=>fun _=>none
theorem pb1:ToldF 29 (EPuI 1) (FB 1):=toldPuI 1
theorem pb2:ToldF 30 (ETi 2) (FB 2):=toldTi 2
theorem pb3:ToldF 31 (EDfI 3) (FB 3):=toldDfI 3
theorem pb4:ToldF 27 (ENew 4) (FB 4):=sta.toldNew 4
theorem pb5:ToldF 17 (ESmT 5) (FB 5):=Zeq (toldSmD 5) rfl rfl rfl rfl rfl
theorem mayR_put {s:StM} (h:MayS s):mayR (putI s):=by
 intro t r hr
 rw [Zjt h,Zsy h] at hr
 cases hr
 exact h
theorem mayR_nil:mayR []:=by
 intro t r hr
 have:rdS (catB [])=.error (1,[]):=rfl
 rw [this] at hr
 cases hr
theorem take_nil:takeI []=none:=by simp [takeI]
theorem _root_.Go.Proofs.Ytonebjgdhachcaa.sta.MayS.small {s:StM} (h:MayS s):s.files.length<=1000000/\s.marks.length<=1000000:=by rw [h.fl,h.ml];omega
theorem Zs0 {s:StM} (h:MayS s) (F:Fns) (k:Nat) (hF:F k=spec RPuI):F k [pRow encF s.files,pRow encM s.marks,pI s.epoch]=some [pRow encS (putI s)]:=by rw [hF];exact Zao fPuI ⟨s,Zov h,rfl,rfl⟩
theorem take_eq {s:StM} (h:MayS s) (F:Fns) (k:Nat) (hF:F k=spec RTi):F k [pRow encS (putI s)]=some [pRow encF s.files,pRow encM s.marks,pI s.epoch,pB true]:=by
 rw [hF]
 exact Zao fTi ⟨putI s,by rw [Zcc h];omega,mayR_put h,rfl,by rw [takeI_put h];rfl⟩
theorem take_eq0 (F:Fns) (k:Nat) (hF:F k=spec RTi):F k [.row 0 []]=some [.row 0 [],.row 0 [],pI 0,pB false]:=by
 rw [hF]
 exact Zao fTi ⟨[],by simp,mayR_nil,rfl,by rw [take_nil];rfl⟩
theorem difI_self (l:List ByteArray):difI l l=[]:=by rw [difI,if_pos rfl,diff_self]
theorem diff_eq' {l m:List ByteArray} (hl:l.length<=1000000) (hm:m.length<=1000000) (F:Fns) (k:Nat) (hF:F k=spec RDfI):F k [pRow encS l,pRow encS m]=some [pRow encQ (difI l m)]:=by rw [hF];exact Zao fDfI ⟨l,m,hl,hm,rfl,rfl⟩
theorem Zoo {s t:StM} (hs:MayS s) (ht:MayS t) (F:Fns) (k:Nat) (hF:F k=spec RSmS):F k [pRow encF s.files,pRow encM s.marks,pI s.epoch,pRow encF t.files,pRow encM t.marks,pI t.epoch]=some [pB (sameS s t)]:=by rw [hF];exact Zao fSmS ⟨s,t,hs.small.1,hs.small.2,ht.small.1,ht.small.2,rfl,rfl⟩
theorem toldBg (k:Nat):ToldF 28 (ETrue k) (spec RTrue):=by
 refine Zb9 Zad Zac FB [] ?_
 intro ps qs h _
 obtain ⟨rfl,rfl⟩:=Zai h
 have g4:FB 4 []=some [pRow encF newS.files,pRow encM newS.marks,pI newS.epoch]:=Zao sta.fNew ⟨rfl,rfl⟩
 have hm:=Zow
 have g1:=Zs0 hm FB 1 rfl
 have g2:=take_eq hm FB 2 rfl
 have g0:=take_eq0 FB 2 rfl
 have hl:(putI newS).length=9:=Zcc hm
 have g3:=diff_eq' (l:=putI newS) (m:=putI newS) (by omega) (by omega) FB 3 rfl
 rw [difI_self] at g3
 have g5:=Zoo hm hm FB 5 rfl
 rw [Zhs.2 rfl] at g5
 have rl:=Zaf encS (putI newS)
 have r0:=Zaf encQ []
 rw [hl] at rl
 generalize putI newS=l at *
 generalize newS=s at *
 refine ⟨_,_,_,_,_,_,Zaj tabB,bg,fun w FP=>?_,?_⟩
 ·simp only [fmC,fmN]
  simp [-Zae,Zab,Zaa,Base.ev,SX.ev,evs,Value.oneCell',g4,g1,g2,g0,g3,g5,rl,r0,binPV,pb1,pb2,pb3,pb4,pb5]
 ·simp [evs,SX.ev,g4,g1,g2,g3,g5,rl,r0,binPV]
theorem made30 {p:List Nat} (hp:p.length<=60) (hz:∀ z ∈ p,z < 256):∃ (s:StM) (n:Nat),MayS s/\spec RSt [pI 30,pRow encU p,pI 0]=some (pSt s++[pRow encU p,pI (n:Int)]):=by
 have okp:OkP p 0:=⟨by omega,by omega,hz⟩
 exact ⟨_,_,Zou 30 Zrl Zow (by omega) okp (by omega),Zao fSt ⟨30,0,p,by omega,okp,rfl,rfl⟩⟩
theorem diff_bound (a b:List ByteArray):(difI a b).length<=b.length:=by
 unfold difI
 split
 ·exact Zm5 a b 0
 ·simp

end Go.Proofs.Ytonebjgdhachcaa.ilw
