/- What is taken of bytes, one behind the other (package image): told. -/
import Derived.Test.YtpnegheknjeljaaGreatBir
namespace Go.Proofs.YtpnegheknjeljaaGreat.ird
open Go Go.RowKit eng SX Fact fil ima symD bip
set_option linter.unusedVariables false
set_option linter.unusedSimpArgs false
set_option maxRecDepth 1000000

def ERn (k:Nat):PtrE:={ k:=k,elem:=167,cells:=1,ins:=[none],outs:=[none],kinds:=[.num,.row] }
def tabR (f:FuncId):Option FnE:=cond (Nat.beq f 159) (some (ETkB 1)) (cond (Nat.beq f 161) (some (ETtB 2)) none)
def isCut:Op->Bool | .slice ..=>true | _=>false
def hCt (f:FuncId) (o:Oper):Option Hint:=cond (isCut o.op) (some .cut) none
def rbx:BoxT:=⟨167,0,false,[.leaf],none,true⟩
noncomputable def flRn:=flat (Zat Tryz.prog 144)
noncomputable def flRt:=flat (Zat Tryz.prog 145)
def shRn:Shape:=⟨[(0,.ptr 0 0 0 0),(1,.leaf)],[rbx],[none,some true],21,144⟩
def shRnR:Shape:=⟨[(4,.leaf)],[rbx],[none,some true],21,144⟩
def shRnP:Shape:=⟨[],[rbx],[some true],21,144⟩
def shRt:Shape:=⟨[(0,.ptr 0 0 0 0),(1,.leaf)],[rbx],[none,some true],22,145⟩
def shRtR:Shape:=⟨[(4,.leaf)],[rbx],[none,some true],22,145⟩
def shRtP:Shape:=⟨[],[rbx],[some true],22,145⟩
def pvRd:Value:=(.iface 9 (.string { data:={ toList:=[UInt8.ofNat 105,UInt8.ofNat 109,UInt8.ofNat 97,UInt8.ofNat 103,UInt8.ofNat 101,UInt8.ofNat 58,UInt8.ofNat 32,UInt8.ofNat 105,UInt8.ofNat 116,UInt8.ofNat 32,UInt8.ofNat 101,UInt8.ofNat 110,UInt8.ofNat 100,UInt8.ofNat 115,UInt8.ofNat 32,UInt8.ofNat 116,UInt8.ofNat 111,UInt8.ofNat 111,UInt8.ofNat 32,UInt8.ofNat 115,UInt8.ofNat 111,UInt8.ofNat 111,UInt8.ofNat 110] } }))
@[simp] def zGreatIrd1:Fact:=le3 (rop ROp.min2 [.var 0,.var 0]) (.len (.var 1)) (.len (.var 1))
theorem rnp:segTo Tryz.prog (orcFn tabR) 10000 flRn shRn [0] shRnP [(0,0)]=some (.panic pvRd,[.fn 159 (ETkB 1) [.var 1,.var 0],.ok (.fn 1 [.var 1,.var 0] 0),.is (.fn 1 [.var 1,.var 0] 1) (.bool false)],[.var 1]):=by kernel_rfl
theorem rn:segTo Tryz.prog (orcFn tabR) 10000 flRn shRn [1] shRnR [(0,0)]=some (.ret,[.fn 159 (ETkB 1) [.var 1,.var 0],.ok (.fn 1 [.var 1,.var 0] 0),.is (.fn 1 [.var 1,.var 0] 1) (.bool true),zGreatIrd1,.ok (.fn 1 [.var 1,.var 0] 0)],[.fn 1 [.var 1,.var 0] 0,SX.sub (.var 1) (rop ROp.min2 [.var 0,.var 0]) (.len (.var 1)) 1]):=by kernel_rfl
theorem rtp:segTo Tryz.prog (orcFn tabR) 10000 flRt shRt [0] shRtP [(0,0)]=some (.panic pvRd,[.fn 161 (ETtB 2) [.var 1],.ok (.fn 2 [.var 1] 0),.ok (.fn 2 [.var 1] 1),.is (.fn 2 [.var 1] 2) (.bool false)],[.var 1]):=by kernel_rfl
theorem rt:segTo Tryz.prog (orcFn tabR) 10000 flRt shRt [1,0] shRtR [(0,0)] hCt=some (.ret,[.fn 161 (ETtB 2) [.var 1],.ok (.fn 2 [.var 1] 0),.ok (.fn 2 [.var 1] 1),.is (.fn 2 [.var 1] 2) (.bool true),zGreatIrd1,.ok (.fn 2 [.var 1] 0)],[.fn 2 [.var 1] 0,SX.sub (.var 1) (rop ROp.min2 [.var 0,.var 0]) (.len (.var 1)) 1]):=by kernel_rfl
theorem rtu:segU Tryz.prog (orcFn tabR) 10000 flRt shRt [1,1] shRtP [(0,0)] hCt=some (.panic (.tuple { toList:=[] }),[.fn 161 (ETtB 2) [.var 1],.ok (.fn 2 [.var 1] 0),.ok (.fn 2 [.var 1] 1),.is (.fn 2 [.var 1] 2) (.bool true),.is (.bin .lss (.len (.var 1)) (.var 0)) (.bool true)],[.var 1]):=by kernel_rfl

@[simp] theorem kRn (k:Nat):(ERn k).k=k:=rfl
def pansR:List Value:=[pvRd,anyV]
noncomputable def FR:Fns:=fun k=>match k with | 1=>spec RTkB | 2=>spec RTtB | _=>fun _=>none
theorem pp1:ToldF 159 (ETkB 1) (FR 1):=toldTkB 1
theorem pp2:ToldF 161 (ETtB 2) (FR 2):=toldTtB 2
theorem r_drop (l:List UInt8) (n:Nat) (h:n<=l.length):subPV (pBy l) (pI (n:Int)) (pI (l.length:Int)) 1=some (pBy (l.drop n)):=by
 rw [Zpp l n l.length h (Nat.le_refl _),List.take_of_length_le (by simp)]
theorem r_minS (n:Int):ropPV .min2 [pI n,pI n]=some (pI n):=by rw [r_min,Int.min_self]
def RRn (ps qs:List PV):Prop:=∃ (l:List UInt8) (n:Nat),l.length<=1000000/\1<=n/\n<=7/\ps=[pI (n:Int),pBy l]/\qs=if n<=l.length then [pI 0,pI (num (l.take n)),pBy (l.drop n)] else [pI 1,pBy l]
theorem fRn:∀ ps q1 q2,RRn ps q1->RRn ps q2->q1=q2:=by
 rintro ps q1 q2 ⟨l,n,_,_,_,rfl,rfl⟩ ⟨l',n',_,_,_,h,rfl⟩
 simp only [List.cons.injEq,PV.v.injEq,Value.int.injEq,true_and,and_true,Int.ofNat_inj] at h
 rw [Zgi h.2,h.1]
theorem toldRn (k0:Nat):ToldQ 144 (ERn k0) pansR (spec RRn):=by
 refine told_ptrQ FR _ (Zat Tryz.prog 144) Tryz.func144 (by kernel_rfl) shRn (by kernel_rfl) ?_ ?_
 ·intro ps qs h
  obtain ⟨l,n,_,_,_,rfl,rfl⟩:=Zah h
  exact Zc0 rfl
 ·intro C ps qs hF h a w hsh
  obtain ⟨l,n,hl,h1,h7,rfl,hqs⟩:=Zah h
  show wpL Tryz.prog flRn _ a w
  rw [<- List.append_nil flRn]
  have rl:=r_len l
  have g:=Zap (R:=RTkB) fTkB ⟨l,n,hl,h1,h7,rfl,rfl⟩
  have g0:FR 1 [pBy l,pI (n:Int)]=some (if n<=l.length then [pI (num (l.take n)),pB true] else [pI 0,pB false]):=g
  by_cases hn:n<=l.length
  ·rw [if_pos hn] at hqs g0
   subst hqs
   have rd:=r_drop l n hn
   have rm:=r_minS (n:Int)
   generalize num (l.take n)=z at *
   refine Zae names_ok mixed_ok (Zar tabR) rn hsh ?_ (fun qs a1 wd hq hx=>⟨nofun,fun _=>.inl ⟨_,rfl,.inr rfl,shRnR,_,[SX.var 0,SX.var 1],hx,by kernel_rfl,?_⟩⟩)
   ·simp [Zab,Zaa,Base.ev,SX.ev,evs,Value.oneCell',hF,g0,pp1,rl,rm]
    all_goals omega
   ·simp [evs,SX.ev,hF,g0,rl,rd,rm] at hq
    subst hq
    rfl
  ·rw [if_neg hn] at hqs g0
   subst hqs
   refine Zae names_ok mixed_ok (Zar tabR) rnp hsh ?_ (fun qs a1 wd hq hx=>⟨nofun,fun _=>.inr ⟨0,_,[pBy l],shRnP,_,[SX.var 0],rfl,rfl,rfl,hx,by kernel_rfl,?_⟩⟩)
   ·simp [Zab,Zaa,Base.ev,SX.ev,evs,Value.oneCell',hF,g0,pp1]
   ·simp [evs,SX.ev] at hq
    subst hq
    rfl
def RRt (ps qs:List PV):Prop:=∃ (l:List UInt8) (n:Nat),l.length<=1000000/\n<=1000/\ps=[pI (n:Int),pBy l]/\qs=if mayT l=true then (if n<=l.length then [pI 0,pS (txL l),pBy (l.drop n)] else [pI 2,pBy l]) else [pI 1,pBy l]
theorem fRt:∀ ps q1 q2,RRt ps q1->RRt ps q2->q1=q2:=by
 rintro ps q1 q2 ⟨l,n,_,_,rfl,rfl⟩ ⟨l',n',_,_,h,rfl⟩
 simp only [List.cons.injEq,PV.v.injEq,Value.int.injEq,true_and,and_true,Int.ofNat_inj] at h
 rw [Zgi h.2,h.1]
theorem toldRt (k0:Nat):ToldQ 145 (ERn k0) pansR (spec RRt):=by
 refine Zl7 FR _ (Zat Tryz.prog 145) Tryz.func145 (by kernel_rfl) shRt (by kernel_rfl) ?_ ?_
 ·intro ps qs h
  obtain ⟨l,n,_,_,rfl,rfl⟩:=Zah h
  exact Zc0 rfl
 ·intro C ps qs hF h a w hsh
  obtain ⟨l,n,hl,hn0,rfl,hqs⟩:=Zah h
  show wpL Tryz.prog flRt _ a w
  rw [<- List.append_nil flRt]
  have rl:=r_len l
  have g0:FR 2 [pBy l]=some (if mayT l=true then [pS (txL l),pI (((l.getD 0 0).toNat+1:Nat):Int),pB true] else [pS ⟨⟨[]⟩⟩,pI 0,pB false]):=Zap (R:=RTtB) fTtB ⟨l,hl,rfl,rfl⟩
  cases hm:mayT l with
  | false =>
   rw [hm,if_neg (by simp)] at hqs g0
   subst hqs
   refine Zae names_ok mixed_ok (Zar tabR) rtp hsh ?_ (fun qs a1 wd hq hx=>⟨nofun,fun _=>.inr ⟨0,_,pvRd,[pBy l],shRtP,_,[SX.var 0],rfl,rfl,by rfl,hx,by kernel_rfl,?_⟩⟩)
   ·simp [Zab,Zaa,Base.ev,SX.ev,evs,Value.oneCell',hF,g0,pp2]
   ·simp [evs,SX.ev] at hq
    subst hq
    rfl
  | true =>
   rw [hm,if_pos rfl] at hqs g0
   obtain ⟨m,hm0⟩:∃ m:Nat,m=(l.getD 0 0).toNat+1:=⟨_,rfl⟩
   rw [<- hm0] at g0
   by_cases hn:n<=l.length
   ·rw [if_pos hn] at hqs
    subst hqs
    have rd:=r_drop l n hn
    have rm:=r_minS (n:Int)
    generalize txL l=z at *
    refine Zae names_ok mixed_ok (Zar tabR) rt hsh ?_ (fun qs a1 wd hq hx=>⟨nofun,fun _=>.inl ⟨_,rfl,.inr rfl,shRtR,_,[SX.var 0,SX.var 1],hx,by kernel_rfl,?_⟩⟩)
    ·simp [Zab,Zaa,Base.ev,SX.ev,evs,Value.oneCell',hF,g0,pp2,rl,rm]
     all_goals omega
    ·simp [evs,SX.ev,hF,g0,rl,rd,rm] at hq
     subst hq
     rfl
   ·rw [if_neg hn] at hqs
    subst hqs
    have d:(l.length:Int) < (n:Int):=by omega
    refine Zp7 names_ok mixed_ok (Zar tabR) rtu hsh ?_ (fun qs a1 wd hq hx=>⟨nofun,fun _ u=>.inr ⟨1,anyV,u,[pBy l],shRtP,_,[SX.var 0],rfl,rfl,by rfl,hx,by kernel_rfl,?_⟩⟩)
    ·simp [Zab,Zaa,Base.ev,SX.ev,evs,Value.oneCell',hF,g0,pp2,binPV,rl,d]
    ·simp [evs,SX.ev] at hq
     subst hq
     rfl

end Go.Proofs.YtpnegheknjeljaaGreat.ird
