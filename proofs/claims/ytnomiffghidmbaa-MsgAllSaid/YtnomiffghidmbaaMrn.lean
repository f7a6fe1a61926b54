/- Package msg's reader.number and reader.text, told. -/
import Derived.Test.YtnomiffghidmbaaRbt
import Derived.Test.YtnomiffghidmbaaMrd
namespace Go.Proofs.Ytnomiffghidmbaa.mrn
open Go Go.RowKit eng SX Fact fil ima symD msm
open bip (ETkB ETtB RTkB fTkB toldTkB RTtB fTtB toldTtB txL pBy_inj)
open mrd (Zns Zrs)
set_option linter.unusedVariables false
set_option linter.unusedSimpArgs false
set_option maxRecDepth 1000000
def ERm (k:Nat):PtrE:={ k:=k,elem:=73,cells:=1,ins:=[none],outs:=[none],kinds:=[.num,.row] }
def ERt (k:Nat):PtrE:={ k:=k,elem:=73,cells:=1,ins:=[],outs:=[none],kinds:=[.num,.row] }
def tabR (f:FuncId):Option FnE:=cond (Nat.beq f 79) (some (ETkB 1)) (cond (Nat.beq f 81) (some (ETtB 2)) none)
def rbm:BoxT:=⟨73,0,false,[.leaf],none,true⟩
noncomputable def flRn:=flat (Zam Try.prog 68)
noncomputable def flRt:=flat (Zam Try.prog 69)
def shRn:Shape:=⟨[(0,.ptr 0 0 0 0),(1,.leaf)],[rbm],[none,some true],21,68⟩
def shRnR:Shape:=⟨[(4,.leaf)],[rbm],[none,some true],21,68⟩
def shRnP:Shape:=⟨[],[rbm],[some true],21,68⟩
def shRt:Shape:=⟨[(0,.ptr 0 0 0 0)],[rbm],[some true],20,69⟩
def shRtR:Shape:=⟨[(2,.leaf)],[rbm],[none,some true],20,69⟩
def shRtP:Shape:=⟨[],[rbm],[some true],20,69⟩
@[simp] def zMrn1:List SX:=[.var 1,.var 0]
@[simp] def zMrn2:SX:=.fn 2 [.var 0] 1
theorem rnp:segTo Try.prog (orcFn tabR) 10000 flRn shRn [0] shRnP [(0,0)]=some (.panic (.iface 9 (.string { data:={ toList:=[UInt8.ofNat 109,UInt8.ofNat 115,UInt8.ofNat 103,UInt8.ofNat 58,UInt8.ofNat 32,UInt8.ofNat 105,UInt8.ofNat 116,UInt8.ofNat 32,UInt8.ofNat 101,UInt8.ofNat 110,UInt8.ofNat 100,UInt8.ofNat 115,UInt8.ofNat 32,UInt8.ofNat 116,UInt8.ofNat 111,UInt8.ofNat 111,UInt8.ofNat 32,UInt8.ofNat 115,UInt8.ofNat 111,UInt8.ofNat 111,UInt8.ofNat 110] } })),[.fn 79 (ETkB 1) zMrn1,.ok (.fn 1 zMrn1 0),.is (.fn 1 zMrn1 1) (.bool false)],[.var 1]):=by kernel_rfl
theorem rn:segTo Try.prog (orcFn tabR) 10000 flRn shRn [1] shRnR [(0,0)]=some (.ret,[.fn 79 (ETkB 1) zMrn1,.ok (.fn 1 zMrn1 0),.is (.fn 1 zMrn1 1) (.bool true),le3 (rop ROp.min2 [.var 0,.var 0]) (.len (.var 1)) (.len (.var 1)),.ok (.fn 1 zMrn1 0)],[.fn 1 zMrn1 0,SX.sub (.var 1) (rop ROp.min2 [.var 0,.var 0]) (.len (.var 1)) 1]):=by kernel_rfl
theorem rtp:segTo Try.prog (orcFn tabR) 10000 flRt shRt [0] shRtP [(0,0)]=some (.panic (.iface 9 (.string { data:={ toList:=[UInt8.ofNat 109,UInt8.ofNat 115,UInt8.ofNat 103,UInt8.ofNat 58,UInt8.ofNat 32,UInt8.ofNat 105,UInt8.ofNat 116,UInt8.ofNat 32,UInt8.ofNat 101,UInt8.ofNat 110,UInt8.ofNat 100,UInt8.ofNat 115,UInt8.ofNat 32,UInt8.ofNat 116,UInt8.ofNat 111,UInt8.ofNat 111,UInt8.ofNat 32,UInt8.ofNat 115,UInt8.ofNat 111,UInt8.ofNat 111,UInt8.ofNat 110] } })),[.fn 81 (ETtB 2) [.var 0],.ok (.fn 2 [.var 0] 0),.ok zMrn2,.is (.fn 2 [.var 0] 2) (.bool false)],[.var 0]):=by kernel_rfl
theorem rt:segTo Try.prog (orcFn tabR) 10000 flRt shRt [1] shRtR [(0,0)]=some (.ret,[.fn 81 (ETtB 2) [.var 0],.ok (.fn 2 [.var 0] 0),.ok zMrn2,.is (.fn 2 [.var 0] 2) (.bool true),le3 (rop ROp.min2 [zMrn2,zMrn2]) (.len (.var 0)) (.len (.var 0)),.ok (.fn 2 [.var 0] 0)],[.fn 2 [.var 0] 0,SX.sub (.var 0) (rop ROp.min2 [zMrn2,zMrn2]) (.len (.var 0)) 1]):=by kernel_rfl
@[simp] theorem kRm (k:Nat):(ERm k).k=k:=rfl
@[simp] theorem kRtm (k:Nat):(ERt k).k=k:=rfl
noncomputable def FR:Fns:=fun k=>match k with | 1=>spec RTkB | 2=>spec RTtB | _=>fun _=>none
theorem n1:ToldF 79 (ETkB 1) (FR 1):=toldTkB 1
theorem n2:ToldF 81 (ETtB 2) (FR 2):=toldTtB 2
def rdA (x:PV) (s:Rd):List PV:=if s.2=true then [pI 1,pBy s.1] else [pI 0,x,pBy s.1]
def RRm (ps qs:List PV):Prop:=∃ (l:List UInt8) (n:Nat),l.length<=1000000/\1<=n/\n<=7/\ps=[pI (n:Int),pBy l]/\qs=rdA (pI (rdN (l,false) n).1) (rdN (l,false) n).2
theorem fRm:∀ ps q1 q2,RRm ps q1->RRm ps q2->q1=q2:=by
 rintro ps q1 q2 ⟨l,n,_,_,_,rfl,rfl⟩ ⟨l',n',_,_,_,h,rfl⟩
 simp only [List.cons.injEq,PV.v.injEq,Value.int.injEq,true_and,and_true,Int.ofNat_inj] at h
 rw [pBy_inj h.2,h.1]
theorem toldRm (k0:Nat):ToldQ 68 (ERm k0) [anyV] (spec RRm):=by
 refine Zfm FR _ (Zam Try.prog 68) Try.func68 (by kernel_rfl) shRn (by kernel_rfl) ?_ ?_
 ·intro ps qs h
  obtain ⟨l,n,_,_,_,rfl,rfl⟩:=Zag h
  exact Za7 rfl
 ·intro C ps qs hF h a w hsh
  obtain ⟨l,n,hl,h1,h7,rfl,hqs⟩:=Zag h
  show wpL Try.prog flRn _ a w
  rw [<- List.append_nil flRn]
  have rl:=r_len l
  have g0:FR 1 [pBy l,pI (n:Int)]=some (if n<=l.length then [pI (num (l.take n)),pB true] else [pI 0,pB false]):=Zaf (R:=RTkB) fTkB ⟨l,n,hl,h1,h7,rfl,rfl⟩
  by_cases hn:n<=l.length
  ·rw [if_pos hn] at g0
   rw [show rdN (l,false) n=(num (l.take n),(l.drop n,false)) by rw [rdN,if_neg (by simp;omega)]] at hqs
   have rd:=Zns l n hn
   have rm:=Zrs (n:Int)
   generalize num (l.take n)=z at *
   refine Zad names_ok mixed_ok (Zae tabR) rn hsh ?_ (fun qs a1 wd hq hx=>⟨nofun,fun _=>.inl ⟨_,hqs,.inr rfl,shRnR,_,[SX.var 0,SX.var 1],hx,by kernel_rfl,?_⟩⟩)
   ·simp [Zab,Zaa,Base.ev,SX.ev,evs,Value.oneCell',hF,g0,n1,rl,rm]
    all_goals omega
   ·simp [evs,SX.ev,hF,g0,rl,rd,rm] at hq
    subst hq
    rfl
  ·rw [if_neg hn] at g0
   rw [show rdN (l,false) n=(0,(l,true)) by rw [rdN,if_pos (.inr (by simp only;omega))]] at hqs
   refine Zad names_ok mixed_ok (Zae tabR) rnp hsh ?_ (fun qs a1 wd hq hx=>⟨nofun,fun _=>.inr ⟨0,anyV,_,[pBy l],shRnP,_,[SX.var 0],hqs,rfl,rfl,hx,by kernel_rfl,?_⟩⟩)
   ·simp [Zab,Zaa,Base.ev,SX.ev,evs,Value.oneCell',hF,g0,n1]
   ·simp [evs,SX.ev] at hq
    subst hq
    rfl
def RRtm (ps qs:List PV):Prop:=∃ (l:List UInt8),l.length<=1000000/\ps=[pBy l]/\qs=rdA (pS (rdT (l,false)).1) (rdT (l,false)).2
theorem fRtm:∀ ps q1 q2,RRtm ps q1->RRtm ps q2->q1=q2:=by
 rintro ps q1 q2 ⟨l,_,rfl,rfl⟩ ⟨l',_,h,rfl⟩
 simp only [List.cons.injEq,and_true] at h
 rw [pBy_inj h]
theorem toldRtm (k0:Nat):ToldQ 69 (ERt k0) [anyV] (spec RRtm):=by
 refine Zfm FR _ (Zam Try.prog 69) Try.func69 (by kernel_rfl) shRt (by kernel_rfl) ?_ ?_
 ·intro ps qs h
  obtain ⟨l,_,rfl,rfl⟩:=Zag h
  exact Za7 rfl
 ·intro C ps qs hF h a w hsh
  obtain ⟨l,hl,rfl,hqs⟩:=Zag h
  show wpL Try.prog flRt _ a w
  rw [<- List.append_nil flRt]
  have rl:=r_len l
  have g0:FR 2 [pBy l]=some (if bip.mayT l=true then [pS (txL l),pI (((l.getD 0 0).toNat+1:Nat):Int),pB true] else [pS ⟨⟨[]⟩⟩,pI 0,pB false]):=Zaf (R:=RTtB) fTtB ⟨l,hl,rfl,rfl⟩
  by_cases hm:l.length < 1 \/ l.length - 1 < (l.getD 0 0).toNat
  ·rw [show bip.mayT l=false by simp only [bip.mayT,Bool.and_eq_false_iff,decide_eq_false_iff_not];omega,if_neg (by simp)] at g0
   rw [show rdT (l,false)=(e0,(l,true)) by rw [rdT,if_pos (.inr hm)]] at hqs
   refine Zad names_ok mixed_ok (Zae tabR) rtp hsh ?_ (fun qs a1 wd hq hx=>⟨nofun,fun _=>.inr ⟨0,anyV,_,[pBy l],shRtP,_,[SX.var 0],hqs,rfl,rfl,hx,by kernel_rfl,?_⟩⟩)
   ·simp [Zab,Zaa,Base.ev,SX.ev,evs,Value.oneCell',hF,g0,n2]
   ·simp [evs,SX.ev] at hq
    subst hq
    rfl
  ·rw [show bip.mayT l=true by simp only [bip.mayT,Bool.and_eq_true,decide_eq_true_eq];omega,if_pos rfl] at g0
   rw [show rdT (l,false)=(txL l,(l.drop ((l.getD 0 0).toNat+1),false)) by rw [rdT,if_neg (by simp only [Bool.false_eq_true,false_or];exact hm)];rfl] at hqs
   obtain ⟨m,hm0⟩:∃ m:Nat,m=(l.getD 0 0).toNat+1:=⟨_,rfl⟩
   rw [<- hm0] at g0 hqs
   have hml:m<=l.length:=by omega
   have rd:=Zns l m hml
   have rm:=Zrs (m:Int)
   generalize txL l=z at *
   refine Zad names_ok mixed_ok (Zae tabR) rt hsh ?_ (fun qs a1 wd hq hx=>⟨nofun,fun _=>.inl ⟨_,hqs,.inr rfl,shRtR,_,[SX.var 0,SX.var 1],hx,by kernel_rfl,?_⟩⟩)
   ·simp [Zab,Zaa,Base.ev,SX.ev,evs,Value.oneCell',hF,g0,n2,rl,rm]
    all_goals omega
   ·simp [evs,SX.ev,hF,g0,rl,rd,rm] at hq
    subst hq
    rfl
end Go.Proofs.Ytnomiffghidmbaa.mrn
