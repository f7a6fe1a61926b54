/- Texts joined. -/
import Derived.Test.YtnomiffghidmbaaMli
import Derived.Test.YtnomiffghidmbaaMkm
import Derived.Test.YtnomiffghidmbaaMta
import Derived.Test.YtnomiffghidmbaaFrameC
section
/- Texts joined. -/
section
/- What the laws of layer 16 stand on: what is made of numbers, what is asked and told, by contracts. -/
namespace Go.Proofs.Ytnomiffghidmbaa.mlw
open Go Go.RowKit eng SX Fact fil ima msm
open pck (OkP encU)
open mws (aP ESa RSa fSa)
open mas (AOk EMa RMa fMa)
open myt (tP TOk EMt RMt fMt)
open mpa (EPa RPa fPa)
open mpt (EPt RPt fPt)
open mtk (EKa RKa fKa EKt RKt fKt tkA tkT tgA tgT a00 t00)
open mka2 (EAk RAk fAk toldAk mkA)
open mkt (EMk RMk fMk toldMk mkT Zup)
open mkm (Zsf Zp2 Zsg)
set_option linter.unusedVariables false
set_option maxRecDepth 1000000
theorem told_rowP {f:FuncId} {E E':PtrE} {R:List PV->Option (List PV)} (h:ToldP f E R) (h1:E'.ins=E.ins) (h2:E'.elem=E.elem) (h3:E'.outs=E.outs) (h4:E'.cells=E.cells) (h5:E'.kinds.all CK.plain=true):ToldP f E' R:=by
 obtain ⟨k,el,ce,i,o,ks⟩:=E
 obtain ⟨k',el',ce',i',o',ks'⟩:=E'
 simp only at h1 h2 h3 h4 h5
 subst h1 h2 h3 h4
 intro w FP b c fz us ps qs a1 a2 a3 a4 a5 a6 a7 a8
 refine (h w FP b c fz us ps qs a1 a2 a3 a4 a5 a6 a7 a8).mono ?_
 rintro e w' ⟨us',c',fz',ow,g1,g2,g3,g4,g5,how,g6,g7⟩
 exact ⟨us',c',fz',fun _=>none,g1,g2,g3,g4,g5,Zfz h5,fun i q u hq hu w2 hw2=>g6 i q u hq hu w2 (fun k hk _=>hw2 k hk (fun _ _=>by simp)),g7⟩
def EAkR (k:Nat):PtrE:={ k:=k,elem:=52,cells:=2,ins:=[],outs:=[some 8],kinds:=[.num,.num,.num,.num,.num,.num,.num,.row,.row,.num] }
def tabFP (f:FuncId):Option PtrE:=cond (Nat.beq f 11) (some (EAkR 8)) (cond (Nat.beq f 12) (some (EMk 9)) none)
noncomputable def G:Fns:=fun k=>match k with | 1=>spec RTrue | 2=>spec RPa | 3=>spec RPt | 4=>spec RKa | 5=>spec RKt | 6=>spec RSa | 7=>spec RSa | 8=>spec RAk | 9=>spec RMk | _=>fun _=>none
theorem u1:ToldF 8 (ETrue 1) (G 1):=mli.begunLit 1
theorem u2:ToldF 15 (EPa 2) (G 2):=mat.toldPaP 2
theorem u3:ToldF 21 (EPt 3) (G 3):=mat.toldPtP 3
theorem u4:ToldF 23 (EKa 4) (G 4):=mtk.toldKa 4
theorem u5:ToldF 25 (EKt 5) (G 5):=mtk.toldKt 5
theorem u6:ToldF 17 (ESa 6) (G 6):=meq.toldSe 6
theorem u7:ToldF 18 (ESa 7) (G 7):=mws.toldSa 7
theorem u8:ToldP 11 (EAkR 8) (G 8):=told_rowP (toldAk 8) rfl rfl rfl rfl rfl
theorem u9:ToldP 12 (EMk 9) (G 9):=toldMk 9
@[simp] theorem kT1 (k:Nat):(ETrue k).k=k:=rfl
@[simp] theorem kP2 (k:Nat):(EPa k).k=k:=rfl
@[simp] theorem kP3 (k:Nat):(EPt k).k=k:=rfl
@[simp] theorem kK4 (k:Nat):(EKa k).k=k:=rfl
@[simp] theorem kK5 (k:Nat):(EKt k).k=k:=rfl
@[simp] theorem kS6 (k:Nat):(ESa k).k=k:=rfl
@[simp] theorem kA8 (k:Nat):(EAkR k).k=k:=rfl
@[simp] theorem kM9 (k:Nat):(EMk k).k=k:=rfl
theorem G8 {l:List Nat} {n:Nat} (h:OkP l n):G 8 [pRow encU l,pI (n:Int)]=some (aP (mkA l n).1++[pRow encU l,pI ((mkA l n).2:Int)]):=Zaf fAk ⟨n,l,h,rfl,rfl⟩
theorem G9 {l:List Nat} {n:Nat} (h:OkP l n):G 9 [pRow encU l,pI (n:Int)]=some (tP (mkT l n).1++[pRow encU l,pI ((mkT l n).2:Int)]):=Zaf fMk ⟨n,l,h,rfl,rfl⟩
theorem G8z {l:List Nat} (h:OkP l 0):G 8 [pRow encU l,pI 0]=some (aP (mkA l 0).1++[pRow encU l,pI ((mkA l 0).2:Int)]):=G8 h
end Go.Proofs.Ytnomiffghidmbaa.mlw
end
section
/- Law 16's Light, told. -/
namespace Go.Proofs.Ytnomiffghidmbaa.mlt
open Go Go.RowKit eng SX Fact fil ima msm
open fileFronts (Zac Zei)
open mws (aP Zej)
open mas (EMa)
set_option linter.unusedVariables false
set_option linter.unusedSimpArgs false
set_option maxRecDepth 1000000
noncomputable def flI:=flat (Zam Try.prog 9)
noncomputable def lpI:=flat (Zaq (nth flI 2))
def ibx:BoxT:=⟨24,0,false,[.leaf,.leaf,.leaf,.leaf,.leaf,.leaf,.leaf,.leaf],none,false⟩
def shI:Shape:=⟨[(0,.agg 8)],[],[none,none,none,none,none,none,none,some false],29,9⟩
def shIl:Shape:=⟨[(1,.ptr 0 0 0 0),(3,.leaf)],[ibx],[none,none,none,none,none,none,none,none,some false],29,9⟩
def shIR:Shape:=⟨[(2,.leaf)],[],[none],29,9⟩
@[simp] def zMlt1:SX:=.bin .leq (.len (.var 8)) (.con (.int .i64 8))
@[simp] def zMlt2:SX:=.bin .gtr (.slen (.cell (.var 8) (.var 0) 2 1)) (.con (.int .i64 40))
@[simp] def zMlt3:SX:=.bin .lss (.var 0) (.len (.var 8))
@[simp] def zMlt4:SX:=.bin .leq (.slen (.var 5)) (.con (.int .i64 40))
@[simp] def zMlt5:Fact:=.ok (.len (.var 8))
@[simp] def zMlt6:SX:=.bin .add (.var 0) (.con (.int .i64 1))
@[simp] def zMlt7:SX:=.cell (.var 8) (.var 0) 2 1
@[simp] def zMlt8:SX:=.con (.bool false)
@[simp] def zMlt9:Fact:=.idx (.var 8) (.var 0) 2 2
theorem pre:segTo Try.prog fil.noOrc 10000 (flI.take 2) shI [] shIl [(1,0)]=some (.normal,[.ok (.con (.int .i64 0)),.ok (.var 0),.ok (.var 1),.ok (.var 2),.ok (.var 3),.ok (.var 4),.ok (.var 5),.ok (.var 6)],[.con (.int .i64 0),.var 0,.var 1,.var 2,.var 3,.var 4,.var 5,.var 6,.var 7]):=by kernel_rfl
theorem lx:segTo Try.prog fil.noOrc 10000 lpI shIl [0] shIl [(0,0)]=some (.exit 0,[zMlt5,.ok zMlt3,.is zMlt3 (.bool false),.ok (.var 0),.ok (.var 1),.ok (.var 2),.ok (.var 3),.ok (.var 4),.ok (.var 5),.ok (.var 6),.ok (.var 7)],[.var 0,.var 1,.var 2,.var 3,.var 4,.var 5,.var 6,.var 7,.var 8]):=by kernel_rfl
theorem lo:segTo Try.prog fil.noOrc 10000 lpI shIl [1,0] shIl [(0,0)]=some (.normal,[zMlt5,.ok zMlt3,.is zMlt3 (.bool true),zMlt9,zMlt9,.ok zMlt7,.ok (.slen zMlt7),.ok zMlt2,.is zMlt2 (.bool false),.ok zMlt6,.ok zMlt6,.ok (.var 1),.ok (.var 2),.ok (.var 3),.ok (.var 4),.ok (.var 5),.ok (.var 6),.ok (.var 7)],[zMlt6,.var 1,.var 2,.var 3,.var 4,.var 5,.var 6,.var 7,.var 8]):=by kernel_rfl
theorem ln:segTo Try.prog fil.noOrc 10000 lpI shIl [1,1] shIR []=some (.ret,[zMlt5,.ok zMlt3,.is zMlt3 (.bool true),zMlt9,zMlt9,.ok zMlt7,.ok (.slen zMlt7),.ok zMlt2,.is zMlt2 (.bool true),.ok zMlt8],[zMlt8]):=by kernel_rfl
theorem z0:segTo Try.prog fil.noOrc 10000 (flI.drop 3) shIl [0] shIR []=some (.ret,[zMlt5,.ok zMlt1,.is zMlt1 (.bool false),.ok zMlt8],[zMlt8]):=by kernel_rfl
theorem z10:segTo Try.prog fil.noOrc 10000 (flI.drop 3) shIl [1,0] shIR []=some (.ret,[zMlt5,.ok zMlt1,.is zMlt1 (.bool true),.ok (.slen (.var 5)),.ok zMlt4,.is zMlt4 (.bool false),.ok zMlt8],[zMlt8]):=by kernel_rfl
theorem z11:segTo Try.prog fil.noOrc 10000 (flI.drop 3) shIl [1,1] shIR []=some (.ret,[zMlt5,.ok zMlt1,.is zMlt1 (.bool true),.ok (.slen (.var 5)),.ok zMlt4,.is zMlt4 (.bool true),.ok (.con (.bool true))],[.con (.bool true)]):=by kernel_rfl
def Zid (a:AskM):Bool:=(a.writes.all fun w=>decide (w.2.size<=40)) && (decide (a.writes.length<=8) && decide (a.name.size<=40))
def RLi (ps qs:List PV):Prop:=∃ a:AskM,a.writes.length<=9223372036854775807/\ps=aP a/\qs=[pB (Zid a)]
theorem fLi:∀ ps q1 q2,RLi ps q1->RLi ps q2->q1=q2:=by
 rintro ps q1 q2 ⟨a,_,rfl,rfl⟩ ⟨b,_,h,rfl⟩
 rw [Zej h]
theorem cutI:flI=flI.take 2++.block (Zat (nth flI 2)) (.loop (Zaq (nth flI 2))) :: flI.drop 3:=by kernel_rfl
theorem lenW (a:List WrM):lenPV (pRow encW a)=some (pI (a.length:Int)):=Zar ..
set_option maxHeartbeats 1000000 in
theorem toldLi (k:Nat):ToldF 9 (EMa k) (spec RLi):=by
 refine Zfx (fun _ _=>none) _ (Zam Try.prog 9) Try.func9 (by kernel_rfl) shI (by kernel_rfl) ?_ ?_
 ·intro ps qs h
  obtain ⟨a,_,rfl,rfl⟩:=Zag h
  exact Za7 rfl
 ·intro C ps qs hF h a w hsh
  obtain ⟨A,hl,rfl,rfl⟩:=Zag h
  clear h
  show wpL Try.prog flI _ a w
  obtain ⟨t1,t2,t3,t4,t5,t6,t7,ws⟩:=A
  simp only [aP] at *
  have rl:=lenW ws
  rw [cutI]
  refine Zad names_ok mixed_ok fil.noOrc_ok pre hsh ?_ (fun qs a1 w1 hq hx=>⟨fun _=>?_,fun h=>absurd rfl h⟩)
  ·simp [-Zac,Zab,Zaa,Base.ev,SX.ev,evs,Value.oneCell',rl]
  simp [evs,SX.ev] at hq
  subst hq
  refine Zbj (fun n a w=>∃ i:Nat,i<=ws.length/\n=ws.length - i/\(∀ j (hj:j < ws.length),j < i->ws[j].2.size<=40)/\Zah C shIl [pI (i:Int),pI t1,pI t2,pI t3,pI t4,pS t5,pI t6,pI t7,pRow encW ws] a w) ?_ (n:=ws.length) ⟨0,by omega,by omega,fun j _ h=>absurd h (by omega),hx⟩
  clear hx
  rintro n a w ⟨i,hi,rfl,hd,hin⟩
  show wpL Try.prog lpI _ a w
  rw [<- List.append_nil lpI]
  by_cases hlt:i < ws.length
  ·obtain ⟨c0,c1⟩:=Zei ws i hlt
   have ix:=Zdk encW ws i 2 2 .i64 rfl hlt (by decide)
   have v3:IntKind.i64.wrap ((i:Int)+1)=(i:Int)+1:=wrapI _ (by omega) (by omega)
   have hil:(i:Int) < (ws.length:Int):=by omega
   by_cases hs:ws[i].2.size<=40
   ·have hs':¬ (40:Int) < (ws[i].2.size:Int):=by omega
    refine Zad names_ok mixed_ok fil.noOrc_ok lo hin ?_ (fun qs a1 w1 hq h1=>⟨fun _=>.inl ⟨rfl,ws.length - (i+1),by omega,i+1,by omega,rfl,fun j hj hji=>?_,by simp [evs,SX.ev,binPV,v3] at hq;subst hq;exact h1⟩,fun h=>absurd rfl h⟩)
    ·simp [-Zac,Zab,Zaa,Base.ev,SX.ev,evs,Value.oneCell',rl,binPV,Zal,v3,hil,ix,c1,hs']
    ·by_cases hje:j=i
     ·subst hje;exact hs
     ·exact hd j hj (by omega)
   ·have hs':(40:Int) < (ws[i].2.size:Int):=by omega
    have hno:Zid ⟨t1,t2,t3,t4,t5,t6,t7,ws⟩=false:=by
     cases hf:Zid ⟨t1,t2,t3,t4,t5,t6,t7,ws⟩ with
     | false=>rfl
     | true =>
      simp only [Zid,Bool.and_eq_true] at hf
      have:=List.all_eq_true.1 hf.1 _ (List.getElem_mem hlt)
      exact absurd (by simpa using this) hs
    rw [hno]
    refine Zad names_ok mixed_ok fil.noOrc_ok ln hin ?_ (fun qs a1 w1 hq h1=>⟨nofun,fun _=>.inr (.inr ⟨rfl,.inr rfl,shIR,_,[SX.var 0],h1,by kernel_rfl,by simp [evs,SX.ev] at hq ⊢;subst hq;rfl⟩)⟩)
    simp [-Zac,Zab,Zaa,Base.ev,SX.ev,evs,Value.oneCell',rl,binPV,Zal,v3,hil,ix,c1,hs']
  ·obtain rfl:i=ws.length:=by omega
   have hall:(ws.all fun w=>decide (w.2.size<=40))=true:=by
    rw [List.all_eq_true]
    intro p hp
    obtain ⟨j,hj,rfl⟩:=List.getElem_of_mem hp
    simpa using hd j hj hj
   rw [show Zid ⟨t1,t2,t3,t4,t5,t6,t7,ws⟩=(decide (ws.length<=8) && decide (t5.size<=40)) by simp only [Zid,hall,Bool.true_and]]
   refine Zad names_ok mixed_ok fil.noOrc_ok lx hin ?_ (fun qs a1 w1 hq h1=>⟨nofun,fun _=>.inr (.inl ⟨by rw [show Zat (nth flI 2)=0 by kernel_rfl];rfl,?_⟩)⟩)
   ·simp [-Zac,Zab,Zaa,Base.ev,SX.ev,evs,Value.oneCell',rl,binPV]
   simp [evs,SX.ev] at hq
   subst hq
   rw [<- List.append_nil (flI.drop 3)]
   by_cases c1:ws.length<=8
   ·have d1:(ws.length:Int)<=8:=by omega
    by_cases c2:t5.size<=40
    ·have d2:(t5.size:Int)<=40:=by omega
     rw [decide_eq_true c1,decide_eq_true c2]
     refine Zad names_ok mixed_ok fil.noOrc_ok z11 h1 ?_ (fun qs a1 wd hq hx=>⟨nofun,fun _=>⟨.inr rfl,shIR,_,[SX.var 0],hx,by kernel_rfl,by simp [evs,SX.ev] at hq;subst hq;rfl⟩⟩)
     simp [-Zac,Zab,Zaa,Base.ev,SX.ev,evs,Value.oneCell',rl,binPV,Zal,d1,d2]
    ·have d2:¬ (t5.size:Int)<=40:=by omega
     rw [decide_eq_true c1,decide_eq_false c2]
     refine Zad names_ok mixed_ok fil.noOrc_ok z10 h1 ?_ (fun qs a1 wd hq hx=>⟨nofun,fun _=>⟨.inr rfl,shIR,_,[SX.var 0],hx,by kernel_rfl,by simp [evs,SX.ev] at hq;subst hq;rfl⟩⟩)
     simp [-Zac,Zab,Zaa,Base.ev,SX.ev,evs,Value.oneCell',rl,binPV,Zal,d1,d2]
   ·have d1:¬ (ws.length:Int)<=8:=by omega
    rw [decide_eq_false c1]
    refine Zad names_ok mixed_ok fil.noOrc_ok z0 h1 ?_ (fun qs a1 wd hq hx=>⟨nofun,fun _=>⟨.inr rfl,shIR,_,[SX.var 0],hx,by kernel_rfl,by simp [evs,SX.ev] at hq;subst hq;rfl⟩⟩)
    simp [-Zac,Zab,Zaa,Base.ev,SX.ev,evs,Value.oneCell',rl,binPV,Zal,d1]
end Go.Proofs.Ytnomiffghidmbaa.mlt
end
end
section
/- MsgAll by the symbolic engine. -/
namespace Go.Proofs.Ytnomiffghidmbaa.msgAll
open Go Go.RowKit eng SX Fact fil ima msm mlw
open fileFronts (Zac rowU)
open pck (OkP encU)
open mws (aP ESa RSa fSa)
open mas (AOk EMa RMa fMa)
open myt (tP TOk RMt fMt eqI_v eqS_v all9)
open mpa (EPa RPa fPa)
open mpt (EPt RPt fPt)
open mtk (RKa fKa RKt fKt tkA tkT tgA tgT a00 t00 qbx tbx eqY)
open mli (EMaN EMtN ESaN EKaN EKtN)
open mrd (Zav)
open mka2 (mkA RAk)
open mkt (EMk mkT Zup RMk)
open mkm (Zsf Zp2 Zsg)
open mlt (Zid RLi fLi toldLi)
set_option linter.unusedVariables false
set_option linter.unusedSimpArgs false
set_option maxRecDepth 1000000
def tabA (f:FuncId):Option FnE:=cond (Nat.beq f 8) (some (ETrue 1)) (cond (Nat.beq f 9) (some (EMa 2)) (cond (Nat.beq f 13) (some (EMaN 11)) (cond (Nat.beq f 14) (some (EMaN 12)) (cond (Nat.beq f 15) (some (EPa 13)) (cond (Nat.beq f 16) (some (EPa 14)) (cond (Nat.beq f 17) (some (ESaN 15)) (cond (Nat.beq f 18) (some (ESaN 16)) (cond (Nat.beq f 19) (some (EMtN 17)) (cond (Nat.beq f 20) (some (EMtN 18)) (cond (Nat.beq f 21) (some (EPt 19)) (cond (Nat.beq f 22) (some (EPt 20)) (cond (Nat.beq f 23) (some (EKaN 21)) (cond (Nat.beq f 24) (some (EKaN 22)) (cond (Nat.beq f 25) (some (EKtN 23)) (cond (Nat.beq f 26) (some (EKtN 24)) none)))))))))))))))
def orcA:Orc:=orcOr (orcFn tabA) (orcP tabFP)
def hAl (f:FuncId) (o:Oper):Option Hint:=match o.op with | .binOp .eql 27 _ _ _=>some .parts | .binOp ..=>none | .unOp ..=>none | .pick ..=>none | _=>some .lazy
noncomputable def flA:=flat (Zam Try.prog 3)
def shA:Shape:=⟨[(0,.agg 8),(1,.agg 9),(2,.leaf),(3,.leaf)],[],[none,none,none,none,none,none,none,some false,none,none,none,none,none,none,none,none,none,some true,some true],177,3⟩
def shAR:Shape:=⟨[(8,.leaf)],[],[none],177,3⟩
def z1:List SX:=[.fn 8 [.var 17,.con (.int .i64 0)] 8,.fn 8 [.var 17,.con (.int .i64 0)] 9]
def z2:List SX:=[.fn 8 [.var 17,.con (.int .i64 0)] 0,.fn 8 [.var 17,.con (.int .i64 0)] 1,.fn 8 [.var 17,.con (.int .i64 0)] 2,.fn 8 [.var 17,.con (.int .i64 0)] 3,.fn 8 [.var 17,.con (.int .i64 0)] 4,.fn 8 [.var 17,.con (.int .i64 0)] 5,.fn 8 [.var 17,.con (.int .i64 0)] 6,.fn 8 [.var 17,.con (.int .i64 0)] 7]
def z3:List SX:=[.var 0,.var 1,.var 2,.var 3,.var 4,.var 5,.var 6,.var 7,.fn 8 [.var 17,.con (.int .i64 0)] 0,.fn 8 [.var 17,.con (.int .i64 0)] 1,.fn 8 [.var 17,.con (.int .i64 0)] 2,.fn 8 [.var 17,.con (.int .i64 0)] 3,.fn 8 [.var 17,.con (.int .i64 0)] 4,.fn 8 [.var 17,.con (.int .i64 0)] 5,.fn 8 [.var 17,.con (.int .i64 0)] 6,.fn 8 [.var 17,.con (.int .i64 0)] 7]
def z4:List SX:=[.fn 9 z1 0,.fn 9 z1 1,.fn 9 z1 2,.fn 9 z1 3,.fn 9 z1 4,.fn 9 z1 5,.fn 9 z1 6,.fn 9 z1 7,.fn 9 z1 8]
def z5:List SX:=[.fn 21 [.var 18] 0,.fn 21 [.var 18] 1,.fn 21 [.var 18] 2,.fn 21 [.var 18] 3,.fn 21 [.var 18] 4,.fn 21 [.var 18] 5,.fn 21 [.var 18] 6,.fn 21 [.var 18] 7,.fn 22 [.var 18] 0,.fn 22 [.var 18] 1,.fn 22 [.var 18] 2,.fn 22 [.var 18] 3,.fn 22 [.var 18] 4,.fn 22 [.var 18] 5,.fn 22 [.var 18] 6,.fn 22 [.var 18] 7]
@[simp] def zMlc1:List SX:=[.var 0,.var 1,.var 2,.var 3,.var 4,.var 5,.var 6,.var 7]
@[simp] def zMlc2:List SX:=[.var 8,.var 9,.var 10,.var 11,.var 12,.var 13,.var 14,.var 15,.var 16]
@[simp] def zMlc3:List SX:=[.var 0,.var 1,.var 2,.var 3,.var 4,.var 5,.var 6,.var 7,.var 0,.var 1,.var 2,.var 3,.var 4,.var 5,.var 6,.var 7]
@[simp] def zMlc4:SX:=rop ROp.allB [rop ROp.eqI [.fn 23 [.var 18] 0,.fn 24 [.var 18] 0],rop ROp.eqI [.fn 23 [.var 18] 1,.fn 24 [.var 18] 1],rop ROp.eqI [.fn 23 [.var 18] 2,.fn 24 [.var 18] 2],rop ROp.eqI [.fn 23 [.var 18] 3,.fn 24 [.var 18] 3],rop ROp.eqI [.fn 23 [.var 18] 4,.fn 24 [.var 18] 4],rop ROp.eqI [.fn 23 [.var 18] 5,.fn 24 [.var 18] 5],rop ROp.eqI [.fn 23 [.var 18] 6,.fn 24 [.var 18] 6],rop ROp.eqI [.fn 23 [.var 18] 7,.fn 24 [.var 18] 7],rop ROp.eqS [.fn 23 [.var 18] 8,.fn 24 [.var 18] 8]]
@[simp] def zMlc5:SX:=.bin .gtr (.slen (.var 16)) (.con (.int .i64 60))
@[simp] def zMlc6:SX:=.bin .gtr (.len (.var 17)) (.con (.int .i64 40))
@[simp] def zMlc7:List SX:=[.var 17,.con (.int .i64 0)]
@[simp] def zMlc8:SX:=.bin .gtr (.len (.var 18)) (.con (.int .i64 90))
@[simp] def zMlc9:SX:=.con (.bool true)
@[simp] def Zra:Fact:=.is (.fn 1 [] 0) (.bool true)
@[simp] def Ztn:Fact:=.is (.fn 2 zMlc1 0) (.bool true)
@[simp] def zMlc12:SX:=.bin .neq (rop ROp.toStr [.fn 13 zMlc1 0]) (rop ROp.toStr [.fn 14 zMlc1 0])
@[simp] def zMlc13:SX:=.bin .neq (rop ROp.toStr [.fn 19 zMlc2 0]) (rop ROp.toStr [.fn 20 zMlc2 0])
@[simp] def zMlc14:SX:=.bin .neq (rop ROp.toStr [.fn 13 z2 0]) (rop ROp.toStr [.fn 14 z2 0])
@[simp] def zMlc15:SX:=.bin .neq (rop ROp.toStr [.fn 19 z4 0]) (rop ROp.toStr [.fn 20 z4 0])
@[simp] def Zq9:Fact:=.fn 9 (EMa 2) zMlc1
@[simp] def Zq8:Fact:=.fn 8 (ETrue 1) []
theorem q1:segTo Try.prog orcA 10000 flA shA [1,0] shAR [] hAl=some (.ret,[Zq8,Zra,Zq9,.is (.fn 2 zMlc1 0) (.bool false),.ok zMlc9],[zMlc9]):=by kernel_rfl
theorem q2:segTo Try.prog orcA 10000 flA shA [1,1,1] shAR [] hAl=some (.ret,[Zq8,Zra,Zq9,Ztn,.ok (.slen (.var 16)),.ok zMlc5,.is zMlc5 (.bool true),.ok zMlc9],[zMlc9]):=by kernel_rfl
theorem q3:segTo Try.prog orcA 10000 flA shA [1,1,0,1] shAR [] hAl=some (.ret,[Zq8,Zra,Zq9,Ztn,.ok (.slen (.var 16)),.ok zMlc5,.is zMlc5 (.bool false),.ok (.len (.var 17)),.ok zMlc6,.is zMlc6 (.bool true),.ok zMlc9],[zMlc9]):=by kernel_rfl
theorem q4:segTo Try.prog orcA 10000 flA shA [1,1,0,0,1] shAR [] hAl=some (.ret,[Zq8,Zra,Zq9,Ztn,.ok (.slen (.var 16)),.ok zMlc5,.is zMlc5 (.bool false),.ok (.len (.var 17)),.ok zMlc6,.is zMlc6 (.bool false),.ok (.len (.var 18)),.ok zMlc8,.is zMlc8 (.bool true),.ok zMlc9],[zMlc9]):=by kernel_rfl
theorem main:segTo Try.prog orcA 10000 flA shA [1,1,0,0,0,0,0,0,0,0,0,0,0,0,0,1,1,1,1,1,1] shAR [] hAl=some (.ret,[Zq8,Zra,Zq9,Ztn,.ok (.slen (.var 16)),.ok zMlc5,.is zMlc5 (.bool false),.ok (.len (.var 17)),.ok zMlc6,.is zMlc6 (.bool false),.ok (.len (.var 18)),.ok zMlc8,.is zMlc8 (.bool false),.fp 11 (EAkR 8) zMlc7,.ok (.fn 8 zMlc7 0),.ok (.fn 8 zMlc7 1),.ok (.fn 8 zMlc7 2),.ok (.fn 8 zMlc7 3),.ok (.fn 8 zMlc7 4),.ok (.fn 8 zMlc7 5),.ok (.fn 8 zMlc7 6),.ok (.fn 8 zMlc7 9),.fp 12 (EMk 9) z1,.ok (.fn 9 z1 0),.ok (.fn 9 z1 1),.ok (.fn 9 z1 2),.ok (.fn 9 z1 3),.ok (.fn 9 z1 4),.ok (.fn 9 z1 5),.ok (.fn 9 z1 6),.ok (.fn 9 z1 7),.ok (.fn 9 z1 8),.ok (.fn 9 z1 10),.fn 13 (EMaN 11) zMlc1,.ok (.fn 11 zMlc1 0),.fn 14 (EMaN 12) zMlc1,.ok (.fn 12 zMlc1 0),.ok (rop ROp.neB [.fn 11 zMlc1 0,.fn 12 zMlc1 0]),.is (rop ROp.neB [.fn 11 zMlc1 0,.fn 12 zMlc1 0]) (.bool false),.fn 15 (EPa 13) zMlc1,.ok (rop ROp.toStr [.fn 13 zMlc1 0]),.fn 16 (EPa 14) zMlc1,.ok (rop ROp.toStr [.fn 14 zMlc1 0]),.ok zMlc12,.is zMlc12 (.bool false),.fn 17 (ESaN 15) zMlc3,.ok (.fn 15 zMlc3 0),.fn 18 (ESaN 16) zMlc3,.ok (.fn 16 zMlc3 0),.ok (rop ROp.neB [.fn 15 zMlc3 0,.fn 16 zMlc3 0]),.is (rop ROp.neB [.fn 15 zMlc3 0,.fn 16 zMlc3 0]) (.bool false),.fn 19 (EMtN 17) zMlc2,.ok (.fn 17 zMlc2 0),.fn 20 (EMtN 18) zMlc2,.ok (.fn 18 zMlc2 0),.ok (rop ROp.neB [.fn 17 zMlc2 0,.fn 18 zMlc2 0]),.is (rop ROp.neB [.fn 17 zMlc2 0,.fn 18 zMlc2 0]) (.bool false),.fn 21 (EPt 19) zMlc2,.ok (rop ROp.toStr [.fn 19 zMlc2 0]),.fn 22 (EPt 20) zMlc2,.ok (rop ROp.toStr [.fn 20 zMlc2 0]),.ok zMlc13,.is zMlc13 (.bool false),.fn 13 (EMaN 11) z2,.ok (.fn 11 z2 0),.fn 14 (EMaN 12) z2,.ok (.fn 12 z2 0),.ok (rop ROp.neB [.fn 11 z2 0,.fn 12 z2 0]),.is (rop ROp.neB [.fn 11 z2 0,.fn 12 z2 0]) (.bool false),.fn 15 (EPa 13) z2,.ok (rop ROp.toStr [.fn 13 z2 0]),.fn 16 (EPa 14) z2,.ok (rop ROp.toStr [.fn 14 z2 0]),.ok zMlc14,.is zMlc14 (.bool false),.fn 17 (ESaN 15) z3,.ok (.fn 15 z3 0),.fn 18 (ESaN 16) z3,.ok (.fn 16 z3 0),.ok (rop ROp.neB [.fn 15 z3 0,.fn 16 z3 0]),.is (rop ROp.neB [.fn 15 z3 0,.fn 16 z3 0]) (.bool false),.fn 19 (EMtN 17) z4,.ok (.fn 17 z4 0),.fn 20 (EMtN 18) z4,.ok (.fn 18 z4 0),.ok (rop ROp.neB [.fn 17 z4 0,.fn 18 z4 0]),.is (rop ROp.neB [.fn 17 z4 0,.fn 18 z4 0]) (.bool false),.fn 21 (EPt 19) z4,.ok (rop ROp.toStr [.fn 19 z4 0]),.fn 22 (EPt 20) z4,.ok (rop ROp.toStr [.fn 20 z4 0]),.ok zMlc15,.is zMlc15 (.bool false),.fn 23 (EKaN 21) [.var 18],.ok (.fn 21 [.var 18] 0),.ok (.fn 21 [.var 18] 1),.ok (.fn 21 [.var 18] 2),.ok (.fn 21 [.var 18] 3),.ok (.fn 21 [.var 18] 4),.ok (.fn 21 [.var 18] 5),.ok (.fn 21 [.var 18] 6),.ok (.fn 21 [.var 18] 8),.fn 24 (EKaN 22) [.var 18],.ok (.fn 22 [.var 18] 0),.ok (.fn 22 [.var 18] 1),.ok (.fn 22 [.var 18] 2),.ok (.fn 22 [.var 18] 3),.ok (.fn 22 [.var 18] 4),.ok (.fn 22 [.var 18] 5),.ok (.fn 22 [.var 18] 6),.ok (.fn 22 [.var 18] 8),.fn 25 (EKtN 23) [.var 18],.ok (.fn 23 [.var 18] 0),.ok (.fn 23 [.var 18] 1),.ok (.fn 23 [.var 18] 2),.ok (.fn 23 [.var 18] 3),.ok (.fn 23 [.var 18] 4),.ok (.fn 23 [.var 18] 5),.ok (.fn 23 [.var 18] 6),.ok (.fn 23 [.var 18] 7),.ok (.fn 23 [.var 18] 8),.ok (.fn 23 [.var 18] 9),.fn 26 (EKtN 24) [.var 18],.ok (.fn 24 [.var 18] 0),.ok (.fn 24 [.var 18] 1),.ok (.fn 24 [.var 18] 2),.ok (.fn 24 [.var 18] 3),.ok (.fn 24 [.var 18] 4),.ok (.fn 24 [.var 18] 5),.ok (.fn 24 [.var 18] 6),.ok (.fn 24 [.var 18] 7),.ok (.fn 24 [.var 18] 8),.ok (.fn 24 [.var 18] 9),.ok (rop ROp.eqB [.fn 21 [.var 18] 8,.fn 22 [.var 18] 8]),.is (rop ROp.eqB [.fn 21 [.var 18] 8,.fn 22 [.var 18] 8]) (.bool true),.fn 18 (ESaN 16) z5,.ok (.fn 16 z5 0),.is (.fn 16 z5 0) (.bool true),.ok (rop ROp.eqB [.fn 23 [.var 18] 9,.fn 24 [.var 18] 9]),.is (rop ROp.eqB [.fn 23 [.var 18] 9,.fn 24 [.var 18] 9]) (.bool true),.ok zMlc4,.is zMlc4 (.bool true),.fn 13 (EMaN 11) z2,.ok (.fn 11 z2 0),.is (.fn 11 z2 0) (.bool true),.fn 19 (EMtN 17) z4,.ok (.fn 17 z4 0),.is (.fn 17 z4 0) (.bool true),.ok zMlc9],[zMlc9]):=by kernel_rfl
noncomputable def GA:Fns:=fun k=>match k with | 1=>spec RTrue | 2=>spec RLi | 8=>spec RAk | 9=>spec RMk | 11=>spec RMa | 12=>spec RMa | 13=>spec RPa | 14=>spec RPa | 15=>spec RSa | 16=>spec RSa | 17=>spec RMt | 18=>spec RMt | 19=>spec RPt | 20=>spec RPt | 21=>spec RKa | 22=>spec mta.RTa | 23=>spec RKt | 24=>spec mtt.RTt | _=>fun _=>none
theorem c1:ToldF 8 (ETrue 1) (GA 1):=mli.begunLit 1
theorem c2:ToldF 9 (EMa 2) (GA 2):=toldLi 2
theorem c8:ToldP 11 (EAkR 8) (GA 8):=mlw.u8
theorem c9:ToldP 12 (EMk 9) (GA 9):=mlw.u9
theorem c11:ToldF 13 (EMaN 11) (GA 11):=Zav (mat.toldMaP 11) rfl rfl rfl rfl
theorem c12:ToldF 14 (EMaN 12) (GA 12):=Zav (mas.toldMa 12) rfl rfl rfl rfl
theorem c13:ToldF 15 (EPa 13) (GA 13):=mat.toldPaP 13
theorem c14:ToldF 16 (EPa 14) (GA 14):=mpa.toldPa 14
theorem c15:ToldF 17 (ESaN 15) (GA 15):=Zav (meq.toldSe 15) rfl rfl rfl rfl
theorem c16:ToldF 18 (ESaN 16) (GA 16):=Zav (mws.toldSa 16) rfl rfl rfl rfl
theorem c17:ToldF 19 (EMtN 17) (GA 17):=Zav (mat.toldMtP 17) rfl rfl rfl rfl
theorem c18:ToldF 20 (EMtN 18) (GA 18):=Zav (myt.toldMt 18) rfl rfl rfl rfl
theorem c19:ToldF 21 (EPt 19) (GA 19):=mat.toldPtP 19
theorem c20:ToldF 22 (EPt 20) (GA 20):=mpt.toldPt 20
theorem c21:ToldF 23 (EKaN 21) (GA 21):=Zav (mtk.toldKa 21) rfl rfl rfl rfl
theorem c22:ToldF 24 (EKaN 22) (GA 22):=Zav (mta.toldTa 22) rfl rfl rfl rfl
theorem c23:ToldF 25 (EKtN 23) (GA 23):=Zav (mtk.toldKt 23) rfl rfl rfl rfl
theorem c24:ToldF 26 (EKtN 24) (GA 24):=Zav (mtt.toldTt 24) rfl rfl rfl rfl
theorem Za0:OrcOk Try.prog orcA:=Zg7 (Zae tabA) (Zbp tabFP)
@[simp] theorem kMaN (k:Nat):(EMaN k).k=k:=rfl
@[simp] theorem kMtN (k:Nat):(EMtN k).k=k:=rfl
@[simp] theorem kSaN (k:Nat):(ESaN k).k=k:=rfl
@[simp] theorem kKaN (k:Nat):(EKaN k).k=k:=rfl
@[simp] theorem kKtN (k:Nat):(EKtN k).k=k:=rfl
@[simp] theorem kMa2 (k:Nat):(EMa k).k=k:=rfl
theorem askQ_eq (b:List UInt8):mta.askQ b=tkA b:=by
 have h:∀ o:Option AskM,(match o with | some a=>aP a++[pB true] | none=>aP mta.a0++[pB false])=tgA o:=fun o=>by cases o <;> rfl
 exact h (takeA b)
theorem tellQ_eq (b:List UInt8):mtt.tellQ b=tkT b:=by
 have h:∀ o:Option TellM,(match o with | some a=>tP a++[pB true] | none=>tP mtt.t0++[pB false])=tgT o:=fun o=>by cases o <;> rfl
 exact h (takeT b)
theorem tkA_form (b:List UInt8):∃ (a:AskM) (t:Bool),a.writes.length<=1000000/\tkA b=aP a++[pB t]:=by
 have h:∀ o:Option AskM,(∀ a,o=some a->a.writes.length<=1000000)->∃ (a:AskM) (t:Bool),a.writes.length<=1000000/\tgA o=aP a++[pB t]:=fun o=>by
  cases o with
  | none=>exact fun _=>⟨a00,false,by simp [a00],rfl⟩
  | some a=>exact fun h=>⟨a,true,h a rfl,rfl⟩
 exact h (takeA b) fun a ha=>(Zp2 (Zlf.1 ha).1).len
theorem tkT_form (b:List UInt8):∃ (a:TellM) (t:Bool),tkT b=tP a++[pB t]:=by
 have h:∀ o:Option TellM,∃ (a:TellM) (t:Bool),tgT o=tP a++[pB t]:=fun o=>by
  cases o with
  | none=>exact ⟨t00,false,rfl⟩
  | some a=>exact ⟨a,true,rfl⟩
 exact h (takeT b)
theorem mkA_ok {l:List Nat} {n:Nat} (ok:OkP l n):OkP l (mkA l n).2:=by
 have o4:=pck.okN (pck.okN (pck.okN (pck.okN ok)))
 unfold mkA
 dsimp only
 split
 ·exact pck.okN o4
 split
 ·exact pck.okN (pck.okN o4)
 split
 ·exact pck.okN (pck.okW (mka2.writes_ok o4))
 split
 ·exact pck.okN (mka2.writes_ok o4)
 ·exact pck.okN o4
theorem neY0 (x:List UInt8):binPV .neq (pS ⟨x.toArray⟩) (pS ⟨x.toArray⟩)=some (pB false):=by rw [mtt.neY];simp
theorem nB0 (t:Bool):ropPV .neB [pB t,pB t]=some (pB false):=by cases t <;> rfl
theorem eB0 (t:Bool):ropPV .eqB [pB t,pB t]=some (pB true):=by cases t <;> rfl
theorem lenU (a:List Nat):lenPV (pRow encU a)=some (pI (a.length:Int)):=Zar ..
structure AIn (a:AskM):Prop where
 epoch:myt.i64 a.epoch
 seq:myt.i64 a.seq
 name:a.name.size<=9223372036854775807
 len:a.writes.length<=9223372036854775807
 wr:∀ w ∈ a.writes,-9223372036854775808<=w.1/\w.1<=9223372036854775807/\w.2.size<=9223372036854775807
theorem ain_ok {a:AskM} (h:AIn a) (hl:Zid a=true):AOk a:=by
 simp only [Zid,Bool.and_eq_true,decide_eq_true_eq] at hl
 exact ⟨h.epoch,h.seq,h.name,by omega,h.wr⟩
def ELaw (k:Nat):FnE:={ k:=k,ins:=[some 8,some 9,none,none],leaks:=[false,false,false,false,false,false,false,false,false,false,false,false,false,false,false,false,false,true,true],outs:=[none],kinds:=[.truth] }
def RL (ps qs:List PV):Prop:=∃ (x:AskM) (y:TellM) (p:List Nat) (b:List UInt8),AIn x/\TOk y/\(∀ z ∈ p,z < 256)/\p.length<=9223372036854775807/\b.length<=9223372036854775807/\ps=aP x++(tP y++[pRow encU p,pBy b])/\qs=[pB true]
theorem fL:∀ ps q1 q2,RL ps q1->RL ps q2->q1=q2:=by
 rintro ps q1 q2 ⟨_,_,_,_,_,_,_,_,_,_,rfl⟩ ⟨_,_,_,_,_,_,_,_,_,_,rfl⟩;rfl
set_option maxHeartbeats 8000000 in
theorem told (k:Nat):ToldF 3 (ELaw k) (spec RL):=by
 refine Zfx GA _ (Zam Try.prog 3) Try.func3 (by kernel_rfl) shA (by kernel_rfl) ?_ ?_
 ·intro ps qs h
  obtain ⟨x,y,p,b,_,_,_,_,_,rfl,rfl⟩:=Zag h
  exact Za7 rfl
 ·intro C ps qs hF h a w hsh
  obtain ⟨x,y,p,b,hx,hy,hp,hpl,hbl,rfl,rfl⟩:=Zag h
  clear h
  show wpL Try.prog flA _ a w
  rw [<- List.append_nil flA]
  have g1:GA 1 []=some [pB true]:=Zaf fTrue ⟨rfl,rfl⟩
  have g2:GA 2 (aP x)=some [pB (Zid x)]:=Zaf fLi ⟨x,hx.len,rfl,rfl⟩
  have l1:=lenU p
  have l2:=r_len b
  cases hl:Zid x with
  | false =>
   rw [hl] at g2
   obtain ⟨x1,x2,x3,x4,x5,x6,x7,x8⟩:=x
   obtain ⟨y1,y2,y3,y4,y5,y6,y7,y8,y9⟩:=y
   simp only [aP,tP,List.cons_append,List.nil_append] at *
   refine Zad names_ok mixed_ok Za0 q1 hsh ?_ (fun qs a1 wd hq hx=>⟨nofun,fun _=>⟨.inr rfl,shAR,_,[SX.var 0],hx,by kernel_rfl,by simp [evs,SX.ev] at hq;subst hq;rfl⟩⟩)
   simp [-Zac,Zab,Zaa,Base.ev,SX.ev,evs,Value.oneCell',hF,g1,g2,msgAll.c1,msgAll.c2]
  | true =>
  rw [hl] at g2
  have hxo:=ain_ok hx hl
  clear hx hl
  by_cases d1:60 < y.body.size
  ·obtain ⟨x1,x2,x3,x4,x5,x6,x7,x8⟩:=x
   obtain ⟨y1,y2,y3,y4,y5,y6,y7,y8,y9⟩:=y
   simp only at d1
   have d1':(60:Int) < (y9.size:Int):=by omega
   simp only [aP,tP,List.cons_append,List.nil_append] at *
   refine Zad names_ok mixed_ok Za0 q2 hsh ?_ (fun qs a1 wd hq hx=>⟨nofun,fun _=>⟨.inr rfl,shAR,_,[SX.var 0],hx,by kernel_rfl,by simp [evs,SX.ev] at hq;subst hq;rfl⟩⟩)
   simp [-Zac,Zab,Zaa,Base.ev,SX.ev,evs,Value.oneCell',hF,binPV,Zal,g1,g2,d1',msgAll.c1,msgAll.c2]
  by_cases d2:40 < p.length
  ·obtain ⟨x1,x2,x3,x4,x5,x6,x7,x8⟩:=x
   obtain ⟨y1,y2,y3,y4,y5,y6,y7,y8,y9⟩:=y
   simp only at d1
   have d1':¬ (60:Int) < (y9.size:Int):=by omega
   have d2':(40:Int) < (p.length:Int):=by omega
   simp only [aP,tP,List.cons_append,List.nil_append] at *
   refine Zad names_ok mixed_ok Za0 q3 hsh ?_ (fun qs a1 wd hq hx=>⟨nofun,fun _=>⟨.inr rfl,shAR,_,[SX.var 0],hx,by kernel_rfl,by simp [evs,SX.ev] at hq;subst hq;rfl⟩⟩)
   simp [-Zac,Zab,Zaa,Base.ev,SX.ev,evs,Value.oneCell',hF,binPV,Zal,g1,g2,l1,d1',d2',msgAll.c1,msgAll.c2]
  by_cases d3:90 < b.length
  ·obtain ⟨x1,x2,x3,x4,x5,x6,x7,x8⟩:=x
   obtain ⟨y1,y2,y3,y4,y5,y6,y7,y8,y9⟩:=y
   simp only at d1
   have d1':¬ (60:Int) < (y9.size:Int):=by omega
   have d2':¬ (40:Int) < (p.length:Int):=by omega
   have d3':(90:Int) < (b.length:Int):=by omega
   simp only [aP,tP,List.cons_append,List.nil_append] at *
   refine Zad names_ok mixed_ok Za0 q4 hsh ?_ (fun qs a1 wd hq hx=>⟨nofun,fun _=>⟨.inr rfl,shAR,_,[SX.var 0],hx,by kernel_rfl,by simp [evs,SX.ev] at hq;subst hq;rfl⟩⟩)
   simp [-Zac,Zab,Zaa,Base.ev,SX.ev,evs,Value.oneCell',hF,binPV,Zal,g1,g2,l1,l2,d1',d2',d3',msgAll.c1,msgAll.c2]
  have d1':¬ (60:Int) < (y.body.size:Int):=by omega
  have d2':¬ (40:Int) < (p.length:Int):=by omega
  have d3':¬ (90:Int) < (b.length:Int):=by omega
  have o0:OkP p 0:=⟨by omega,by omega,hp⟩
  have g8:GA 8 [pRow encU p,pI 0]=some (aP (mkA p 0).1++[pRow encU p,pI ((mkA p 0).2:Int)]):=G8z o0
  have o1:=mkA_ok o0
  have g9:GA 9 [pRow encU p,pI ((mkA p 0).2:Int)]=some (tP (mkT p (mkA p 0).2).1++[pRow encU p,pI ((mkT p (mkA p 0).2).2:Int)]):=G9 o1
  have ha:=Zsf p 0
  have ht:=Zup p (mkA p 0).2
  generalize (mkT p (mkA p 0).2).2=n9 at *
  generalize (mkT p (mkA p 0).2).1=t at *
  generalize (mkA p 0).2=n8 at *
  generalize (mkA p 0).1=e at *
  have hao:=Zp2 ha
  have hto:=Zsg ht
  have m1:GA 11 (aP x)=some [pB (mayA x)]:=Zaf fMa ⟨x,hxo,rfl,rfl⟩
  have m2:GA 12 (aP x)=some [pB (mayA x)]:=Zaf fMa ⟨x,hxo,rfl,rfl⟩
  have m3:GA 13 (aP x)=some [pBy (putA x)]:=Zaf fPa ⟨x,hxo,rfl,rfl⟩
  have m4:GA 14 (aP x)=some [pBy (putA x)]:=Zaf fPa ⟨x,hxo,rfl,rfl⟩
  have m5:GA 15 (aP x++aP x)=some [pB (decide (x=x))]:=Zaf fSa ⟨x,x,hxo.len,hxo.len,rfl,rfl⟩
  have m6:GA 16 (aP x++aP x)=some [pB (decide (x=x))]:=Zaf fSa ⟨x,x,hxo.len,hxo.len,rfl,rfl⟩
  have m7:GA 17 (tP y)=some [pB (mayT y)]:=Zaf fMt ⟨y,hy,rfl,rfl⟩
  have m8:GA 18 (tP y)=some [pB (mayT y)]:=Zaf fMt ⟨y,hy,rfl,rfl⟩
  have m9:GA 19 (tP y)=some [pBy (putT y)]:=Zaf fPt ⟨y,hy,rfl,rfl⟩
  have m10:GA 20 (tP y)=some [pBy (putT y)]:=Zaf fPt ⟨y,hy,rfl,rfl⟩
  have k1:GA 11 (aP e)=some [pB true]:=by rw [<- ha];exact Zaf fMa ⟨e,hao,rfl,rfl⟩
  have k2:GA 12 (aP e)=some [pB true]:=by rw [<- ha];exact Zaf fMa ⟨e,hao,rfl,rfl⟩
  have k3:GA 13 (aP e)=some [pBy (putA e)]:=Zaf fPa ⟨e,hao,rfl,rfl⟩
  have k4:GA 14 (aP e)=some [pBy (putA e)]:=Zaf fPa ⟨e,hao,rfl,rfl⟩
  have k5:GA 15 (aP x++aP e)=some [pB (decide (x=e))]:=Zaf fSa ⟨x,e,hxo.len,hao.len,rfl,rfl⟩
  have k6:GA 16 (aP x++aP e)=some [pB (decide (x=e))]:=Zaf fSa ⟨x,e,hxo.len,hao.len,rfl,rfl⟩
  have k7:GA 17 (tP t)=some [pB true]:=by rw [<- ht];exact Zaf fMt ⟨t,hto,rfl,rfl⟩
  have k8:GA 18 (tP t)=some [pB true]:=by rw [<- ht];exact Zaf fMt ⟨t,hto,rfl,rfl⟩
  have k9:GA 19 (tP t)=some [pBy (putT t)]:=Zaf fPt ⟨t,hto,rfl,rfl⟩
  have k10:GA 20 (tP t)=some [pBy (putT t)]:=Zaf fPt ⟨t,hto,rfl,rfl⟩
  have s1:=Zd6 (putA x)
  have s2:=Zd6 (putT y)
  have s3:=Zd6 (putA e)
  have s4:=Zd6 (putT t)
  have w1:=neY0 (putA x)
  have w2:=neY0 (putT y)
  have w3:=neY0 (putA e)
  have w4:=neY0 (putT t)
  have b1:=nB0 (mayA x)
  have b2:=nB0 (mayT y)
  have b3:=nB0 (decide (x=x))
  have b4:=nB0 (decide (x=e))
  have b5:=nB0 true
  have t1:GA 21 [pBy b]=some (tkA b):=Zaf fKa ⟨b,by omega,rfl,rfl⟩
  have t2:GA 22 [pBy b]=some (tkA b):=by rw [<- askQ_eq];exact Zaf mta.fTa ⟨b,by omega,rfl,rfl⟩
  have t3:GA 23 [pBy b]=some (tkT b):=Zaf fKt ⟨b,by omega,rfl,rfl⟩
  have t4:GA 24 [pBy b]=some (tkT b):=by rw [<- tellQ_eq];exact Zaf mtt.fTt ⟨b,by omega,rfl,rfl⟩
  obtain ⟨ra,ta,hral,hra⟩:=tkA_form b
  obtain ⟨rt,tt,hrt⟩:=tkT_form b
  rw [hra] at t1 t2
  rw [hrt] at t3 t4
  have t5:GA 16 (aP ra++aP ra)=some [pB true]:=by rw [<- decide_eq_true (rfl:ra=ra)];exact Zaf fSa ⟨ra,ra,hral,hral,rfl,rfl⟩
  have b6:=eB0 ta
  have b7:=eB0 tt
  have e3:ropPV .allB [pB true,pB true,pB true,pB true,pB true,pB true,pB true,pB true,pB true]=some (pB true):=rfl
  clear hra hrt hral hao hto ha ht hxo hy o0 o1 d1 d2 d3
  generalize putA x=PX at *
  generalize putT y=PY at *
  generalize putA e=PE at *
  generalize putT t=PT at *
  generalize mayA x=MX at *
  generalize mayT y=MY at *
  generalize decide (x=x)=SX1 at *
  generalize decide (x=e)=SX2 at *
  obtain ⟨x1,x2,x3,x4,x5,x6,x7,x8⟩:=x
  obtain ⟨y1,y2,y3,y4,y5,y6,y7,y8,y9⟩:=y
  obtain ⟨e_1,e_2,e_3,e_4,e_5,e_6,e_7,e_8⟩:=e
  obtain ⟨t_1,t_2,t_3,t_4,t_5,t_6,t_7,t_8,t_9⟩:=t
  obtain ⟨ra_1,ra_2,ra_3,ra_4,ra_5,ra_6,ra_7,ra_8⟩:=ra
  obtain ⟨rt_1,rt_2,rt_3,rt_4,rt_5,rt_6,rt_7,rt_8,rt_9⟩:=rt
  simp only [aP,tP,List.cons_append,List.nil_append] at *
  refine Zad names_ok mixed_ok Za0 main hsh ?_ (fun qs a1 wd hq hx=>⟨nofun,fun _=>⟨.inr rfl,shAR,_,[SX.var 0],hx,by kernel_rfl,by simp [evs,SX.ev] at hq;subst hq;rfl⟩⟩)
  simp [-Zac,Zab,Zaa,Base.ev,SX.ev,evs,Value.oneCell',z1,z2,z3,z4,z5,hF,binPV,Zal,eqI_v,eqS_v,g1,g2,l1,l2,d1',d2',d3',g8,g9,m1,m2,m3,m4,m5,m6,m7,m8,m9,m10,k1,k2,k3,k4,k5,k6,k7,k8,k9,k10,s1,s2,s3,s4,w1,w2,w3,w4,b1,b2,b3,b4,b5,t1,t2,t3,t4,t5,b6,b7,e3,msgAll.c1,msgAll.c2,msgAll.c8,msgAll.c9,msgAll.c11,msgAll.c12,msgAll.c13,msgAll.c14,msgAll.c15,msgAll.c16,msgAll.c17,msgAll.c18,msgAll.c19,msgAll.c20,msgAll.c21,msgAll.c22,msgAll.c23,msgAll.c24]
theorem writes_of {w:World} {v:Value} {xs:List (List Value)} (h:Zqg [.int .i64,.str] w v xs):∃ l:List (Int × ByteArray),l.length=xs.length/\(∀ w ∈ l,-9223372036854775808<=w.1/\w.1<=9223372036854775807/\w.2.size<=9223372036854775807)/\Reads w (pRow encW l) v:=by
 obtain ⟨hx,a,cap,rfl,h1,h2,h3⟩:=h
 have hs:∀ x ∈ xs,∃ (n:Int) (s:ByteArray),x=[.int .i64 n,.string s]/\(Lit.int .i64 n).wf=true/\s.size<=maxLen:=fun x hm=>by
  obtain ⟨hl,hk⟩:=hx x hm
  match x,hl with
  | [u,v],_ =>
   obtain ⟨n,rfl,hn⟩:=hk 0 _ u rfl rfl
   obtain ⟨s,rfl,hs⟩:=hk 1 _ v rfl rfl
   exact ⟨n,s,rfl,hn,hs⟩
 let f:List Value->Int × ByteArray:=fun x=>match x with | [.int _ n,.string s]=>(n,s) | _=>(0,⟨⟨[]⟩⟩)
 refine ⟨xs.map f,by simp,fun s hm=>?_,?_⟩
 ·obtain ⟨x,hx',rfl⟩:=List.mem_map.1 hm
  obtain ⟨n,s,rfl,hn,hs⟩:=hs x hx'
  obtain ⟨b1,b2⟩:=bounds_i64 hn
  exact ⟨b1,b2,Ze8 hs⟩
 ·rw [reads_row]
  refine ⟨a,cap,by simp,by simpa using h1,h2,fun hp=>?_⟩
  simp only [List.length_map] at hp
  obtain ⟨b,off,rfl,hc⟩:=h3 hp
  have key:∀ (j:Nat) (hj:j < xs.length) (r:Nat) (u:Value),(encW.enc (f xs[j]))[r]?=some u->w.cell? ⟨b,off+(j * 2+r),none⟩=some u:=fun j hj r u hu=>by
   obtain ⟨n,s,hx0,_⟩:=hs xs[j] (List.getElem_mem hj)
   refine hc j xs[j] r u (List.getElem?_eq_getElem hj) ?_
   have hf:f xs[j]=(n,s):=by rw [hx0]
   rw [hf] at hu
   rw [hx0]
   exact hu
  refine ⟨b,off,rfl,?_,fun i u hu=>?_⟩
  ·have:=key 0 hp 0 _ (by rfl)
   exact World.block_lt_of_cell? w _ this
  ·have hlen:i < (encW.all (xs.map f)).length:=(List.getElem?_eq_some_iff.1 hu).1
   rw [Enc.all_length,List.length_map] at hlen
   have hlen:i < xs.length * 2:=hlen
   have hj:i / 2 < xs.length:=by omega
   have hi:i=i / 2 * 2+i % 2:=by omega
   have hx1:(xs.map f)[i / 2]?=some (f xs[i / 2]):=by rw [List.getElem?_map,List.getElem?_eq_getElem hj];rfl
   have hac:=Zmz encW (xs.map f) (i / 2) (i % 2) _ hx1 (Nat.mod_lt _ (by decide))
   have hac:(encW.all (xs.map f))[i / 2 * 2+i % 2]?=(encW.enc (f xs[i / 2]))[i % 2]?:=hac
   rw [<- hi,hu] at hac
   have:=key (i / 2) hj (i % 2) u hac.symm
   rwa [<- hi] at this
theorem rowB {w:World} {v:Value} {len:Nat} {Z:Nat->Int} (h:IsRow .u8 w v len Z):∃ l:List UInt8,l.length<=9223372036854775807/\Reads w (pBy l) v:=by
 obtain ⟨p,hp,hl,hr⟩:=rowU h
 refine ⟨p.map UInt8.ofNat,by simpa using hl,?_⟩
 have:pBy (p.map UInt8.ofNat)=pRow encU p:=by
  have e:∀ p:List Nat,(∀ z ∈ p,z < 256)->(p.map UInt8.ofNat).map (fun b=>PV.v (Value.int .u8 b.toNat))=(encU.all p).map PV.v:=fun p=>by
   induction p with
   | nil=>intro _;rfl
   | cons x p ih =>
    intro h
    have hx:=h x (by simp)
    have e1:(UInt8.ofNat x).toNat=x:=by rw [UInt8.toNat_ofNat'];omega
    rw [Enc.all_cons,List.map_append,<- ih (fun z hz=>h z (by simp [hz]))]
    simp [e1,encU]
  simp only [pBy,pRow,e p hp,List.length_map]
 rw [this]
 exact hr
theorem walk (w:World) (cs0:List Value) (h0:FKs w [.pl (.int .i64),.pl (.int .i64),.pl (.int .i64),.pl (.int .i64),.pl .str,.pl (.int .i64),.pl (.int .i64),.th [.int .i64,.str]] cs0) (cs1:List Value) (h1:LKs [.int .i64,.int .i64,.int .i64,.int .i64,.int .i64,.int .i64,.int .i64,.int .i64,.str] cs1) (v2:Value) (len2:Nat) (Z2:Nat->Int) (hg2:IsRow .u8 w v2 len2 Z2) (v3:Value) (len3:Nat) (Z3:Nat->Int) (hg3:IsRow .u8 w v3 len3 Z3) :
  Calls Try.prog 3 #[.agg cs0.toArray,.agg cs1.toArray,v2,v3] w fun e w'=>e=.returned (.bool true)/\Ex w w':=by
 obtain ⟨p,hp,hpl,hr2⟩:=rowU hg2
 obtain ⟨b,hbl,hr3⟩:=rowB hg3
 obtain ⟨hl0,hk0⟩:=h0
 obtain ⟨hl1,hk1⟩:=h1
 match cs0,hl0 with
 | [x0,x1,x2,x3,x4,x5,x6,x7],_ =>
  match cs1,hl1 with
  | [y0,y1,y2,y3,y4,y5,y6,y7,y8],_ =>
   obtain ⟨a0,rfl,q0⟩:=hk0 0 _ x0 rfl rfl
   obtain ⟨a1,rfl,q1⟩:=hk0 1 _ x1 rfl rfl
   obtain ⟨a2,rfl,q2⟩:=hk0 2 _ x2 rfl rfl
   obtain ⟨a3,rfl,q3⟩:=hk0 3 _ x3 rfl rfl
   obtain ⟨a4,rfl,q4⟩:=hk0 4 _ x4 rfl rfl
   obtain ⟨a5,rfl,q5⟩:=hk0 5 _ x5 rfl rfl
   obtain ⟨a6,rfl,q6⟩:=hk0 6 _ x6 rfl rfl
   obtain ⟨xs,hxs⟩:=hk0 7 _ x7 rfl rfl
   obtain ⟨ws,hwl,hwo,hwr⟩:=writes_of hxs
   have hws:ws.length<=9223372036854775807:=by
    obtain ⟨_,_,cap,_,hc1,hc2,_⟩:=hxs
    have:=Ze8 hc2
    omega
   obtain ⟨t0,rfl,r0⟩:=hk1 0 _ y0 rfl rfl
   obtain ⟨t1,rfl,r1⟩:=hk1 1 _ y1 rfl rfl
   obtain ⟨t2,rfl,r2⟩:=hk1 2 _ y2 rfl rfl
   obtain ⟨t3,rfl,r3⟩:=hk1 3 _ y3 rfl rfl
   obtain ⟨t4,rfl,r4⟩:=hk1 4 _ y4 rfl rfl
   obtain ⟨t5,rfl,r5⟩:=hk1 5 _ y5 rfl rfl
   obtain ⟨t6,rfl,r6⟩:=hk1 6 _ y6 rfl rfl
   obtain ⟨t7,rfl,r7⟩:=hk1 7 _ y7 rfl rfl
   obtain ⟨t8,rfl,r8⟩:=hk1 8 _ y8 rfl rfl
   refine told_true (told 0) rfl (us:=[.int .i64 a0,.int .i64 a1,.int .i64 a2,.int .i64 a3,.string a4,.int .i64 a5,.int .i64 a6,x7,.int .i64 t0,.int .i64 t1,.int .i64 t2,.int .i64 t3,.int .i64 t4,.int .i64 t5,.int .i64 t6,.int .i64 t7,.string t8,v2,v3]) (ps:=aP ⟨a0,a1,a2,a3,a4,a5,a6,ws⟩++(tP ⟨t0,t1,t2,t3,t4,t5,t6,t7,t8⟩++[pRow encU p,pBy b])) (Zaf fL ⟨_,_,p,b,⟨bounds_i64 q2,bounds_i64 q3,Ze8 q4,hws,hwo⟩,⟨bounds_i64 r0,bounds_i64 r1,bounds_i64 r2,bounds_i64 r3,bounds_i64 r4,bounds_i64 r5,bounds_i64 r6,bounds_i64 r7,Ze8 r8⟩,hp,hpl,hbl,rfl,rfl⟩) rfl rfl (fun i p u hp hu=>?_)
   match i,hp,hu with
   | 0,hp,hu=>simp [aP,tP] at hp hu;subst hp;subst hu;exact Za9 rfl
   | 1,hp,hu=>simp [aP,tP] at hp hu;subst hp;subst hu;exact Za9 rfl
   | 2,hp,hu=>simp [aP,tP] at hp hu;subst hp;subst hu;exact Za9 rfl
   | 3,hp,hu=>simp [aP,tP] at hp hu;subst hp;subst hu;exact Za9 rfl
   | 4,hp,hu=>simp [aP,tP] at hp hu;subst hp;subst hu;exact Za9 rfl
   | 5,hp,hu=>simp [aP,tP] at hp hu;subst hp;subst hu;exact Za9 rfl
   | 6,hp,hu=>simp [aP,tP] at hp hu;subst hp;subst hu;exact Za9 rfl
   | 7,hp,hu=>simp [aP,tP] at hp hu;subst hp;subst hu;exact hwr
   | 8,hp,hu=>simp [aP,tP] at hp hu;subst hp;subst hu;exact Za9 rfl
   | 9,hp,hu=>simp [aP,tP] at hp hu;subst hp;subst hu;exact Za9 rfl
   | 10,hp,hu=>simp [aP,tP] at hp hu;subst hp;subst hu;exact Za9 rfl
   | 11,hp,hu=>simp [aP,tP] at hp hu;subst hp;subst hu;exact Za9 rfl
   | 12,hp,hu=>simp [aP,tP] at hp hu;subst hp;subst hu;exact Za9 rfl
   | 13,hp,hu=>simp [aP,tP] at hp hu;subst hp;subst hu;exact Za9 rfl
   | 14,hp,hu=>simp [aP,tP] at hp hu;subst hp;subst hu;exact Za9 rfl
   | 15,hp,hu=>simp [aP,tP] at hp hu;subst hp;subst hu;exact Za9 rfl
   | 16,hp,hu=>simp [aP,tP] at hp hu;subst hp;subst hu;exact Za9 rfl
   | 17,hp,hu=>simp [aP,tP] at hp hu;subst hp;subst hu;exact hr2
   | 18,hp,hu=>simp [aP,tP] at hp hu;subst hp;subst hu;exact hr3
   | i+19,hp,hu=>simp [aP,tP] at hp
end Go.Proofs.Ytnomiffghidmbaa.msgAll
end
