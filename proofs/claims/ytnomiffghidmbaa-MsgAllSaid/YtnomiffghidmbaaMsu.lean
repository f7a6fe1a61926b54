/- Package crc's Sum, told. -/
import Derived.Test.YtnomiffghidmbaaMcr
namespace Go.Proofs.Ytnomiffghidmbaa.msu
open Go Go.RowKit eng SX Fact fil ima symD msm mcr
open bip (Zgp)
set_option linter.unusedVariables false
set_option linter.unusedSimpArgs false
set_option maxRecDepth 1000000
def EBt (k:Nat):FnE:={ k:=k,ins:=[none],leaks:=[false],outs:=[none],kinds:=[.num] }
def tabB (f:FuncId):Option FnE:=cond (Nat.beq f 101) (some (EBt 1)) none
def tabS (f:FuncId):Option FnE:=cond (Nat.beq f 91) (some (EBt 2)) none
noncomputable def flS:=flat (Zam Try.prog 78)
noncomputable def lpS:=flat (Zaq (nth flS 3))
def shS:Shape:=⟨[(0,.leaf)],[],[some false],19,78⟩
def shSl:Shape:=⟨[(3,.leaf),(6,.leaf),(7,.leaf),(8,.leaf)],[],[none,some false,none,none],19,78⟩
def shSR:Shape:=⟨[(2,.leaf)],[],[none],19,78⟩
@[simp] def zMsu1:SX:=.op (Op.binOp .and 46 (Operand.tmp 3) (Operand.const (.int .u16 (Int.ofNat 1))) 46) 46 [3] [.var 0]
@[simp] def zMsu2:SX:=.op (Op.binOp .xor 46 (Operand.tmp 12) (Operand.tmp 14) 46) 46 [12,14] [.var 0,.conv .u16 (.cell (.var 1) (.var 3) 1 0)]
@[simp] def zMsu3:SX:=.fn 1 [.fn 1 [.fn 1 [.fn 1 [.var 0] 0] 0] 0] 0
@[simp] def zMsu4:SX:=.op (Op.binOp .xor 46 (Operand.tmp 9) (Operand.const (.int .u16 (Int.ofNat 40961))) 46) 46 [9] [.op (Op.binOp .shr 46 (Operand.tmp 8) (Operand.const (.int .u64 (Int.ofNat 1))) 105) 46 [8] [.var 0]]
@[simp] def zMsu5:SX:=.bin .eql zMsu1 (.con (.int .u16 (Int.ofNat 0)))
@[simp] def zMsu6:SX:=.fn 1 [.fn 1 [zMsu3] 0] 0
@[simp] def zMsu7:SX:=.op (Op.binOp .shr 46 (Operand.tmp 6) (Operand.const (.int .u64 (Int.ofNat 1))) 105) 46 [6] [.var 0]
@[simp] def zMsu8:SX:=.bin .add (.var 3) (.con (.int .i64 1))
@[simp] def zMsu9:SX:=.bin .lss (.var 3) (.var 2)
@[simp] def Zs5:SX:=.fn 1 [.fn 1 [.var 0] 0] 0
theorem b0:runTo Try.prog fil.noOrc 10000 101 (EBt 1) [.num] [1]=some ([.ok (.var 0),.ok zMsu1,.ok zMsu5,.is zMsu5 (.bool true),.ok zMsu7],[zMsu7]):=by kernel_rfl
theorem b1:runTo Try.prog fil.noOrc 10000 101 (EBt 1) [.num] [0]=some ([.ok (.var 0),.ok zMsu1,.ok zMsu5,.is zMsu5 (.bool false),.ok (.op (Op.binOp .shr 46 (Operand.tmp 8) (Operand.const (.int .u64 (Int.ofNat 1))) 105) 46 [8] [.var 0]),.ok zMsu4],[zMsu4]):=by kernel_rfl
theorem by8:runTo Try.prog (orcFn tabB) 10000 91 (EBt 2) [.num] []=some ([.ok (.var 0),.fn 101 (EBt 1) [.var 0],.ok (.fn 1 [.var 0] 0),.fn 101 (EBt 1) [.fn 1 [.var 0] 0],.ok Zs5,.fn 101 (EBt 1) [Zs5],.ok (.fn 1 [Zs5] 0),.fn 101 (EBt 1) [.fn 1 [Zs5] 0],.ok zMsu3,.fn 101 (EBt 1) [zMsu3],.ok (.fn 1 [zMsu3] 0),.fn 101 (EBt 1) [.fn 1 [zMsu3] 0],.ok zMsu6,.fn 101 (EBt 1) [zMsu6],.ok (.fn 1 [zMsu6] 0),.fn 101 (EBt 1) [.fn 1 [zMsu6] 0],.ok (.fn 1 [.fn 1 [zMsu6] 0] 0)],[.fn 1 [.fn 1 [zMsu6] 0] 0]):=by kernel_rfl
theorem spre:segTo Try.prog (orcFn tabS) 10000 (flS.take 3) shS [] shSl []=some (.normal,[.ok (.len (.var 0)),.ok (.con (.int .u16 (Int.ofNat 0))),.ok (.len (.var 0)),.ok (.con (.int .i64 0))],[.con (.int .u16 (Int.ofNat 0)),.var 0,.len (.var 0),.con (.int .i64 0)]):=by kernel_rfl
theorem sx:segTo Try.prog (orcFn tabS) 10000 lpS shSl [0] shSl []=some (.exit 0,[.ok zMsu9,.is zMsu9 (.bool false),.ok (.var 0),.ok (.var 2),.ok (.var 3)],[.var 0,.var 1,.var 2,.var 3]):=by kernel_rfl
theorem so:segTo Try.prog (orcFn tabS) 10000 lpS shSl [1] shSl []=some (.normal,[.ok zMsu9,.is zMsu9 (.bool true),.idx (.var 1) (.var 3) 1 1,.idx (.var 1) (.var 3) 1 1,.ok (.cell (.var 1) (.var 3) 1 0),.ok (.conv .u16 (.cell (.var 1) (.var 3) 1 0)),.ok zMsu2,.fn 91 (EBt 2) [zMsu2],.ok (.fn 2 [zMsu2] 0),.ok zMsu8,.ok (.fn 2 [zMsu2] 0),.ok (.var 2),.ok zMsu8],[.fn 2 [zMsu2] 0,.var 1,.var 2,zMsu8]):=by kernel_rfl
theorem sp:segTo Try.prog (orcFn tabS) 10000 (flS.drop 4) shSl [] shSR []=some (.ret,[.ok (.var 0)],[.var 0]):=by kernel_rfl
theorem w16 (x:Nat) (h:x < 65536):IntKind.u16.wrap (x:Int)=(x:Int):=by
 show (x:Int) % 65536=_
 omega
theorem m16 (x:Nat) (h:x < 65536):x % 2 ^ IntKind.u16.bits=x:=Nat.mod_eq_of_lt (by show x < 2 ^ 16;omega)
theorem op_xor16 (x y:Nat) (t t':TypeId) (a b:Nat) (hab:Nat.beq a b=false) (hx:x < 65536) (hy:y < 65536):opVal Try.prog (Op.binOp .xor t (Operand.tmp a) (Operand.tmp b) t) t' [a,b] [.int .u16 (x:Int),.int .u16 (y:Int)]=some (.int .u16 ((x ^^^ y:Nat):Int)):=by
 have hb:Nat.beq b b=true:=Nat.beq_refl b
 have ha:Nat.beq a a=true:=Nat.beq_refl a
 simp only [opVal,Op.isSelect,cond_false,execOp,envR,lookT,ha,hab,hb,cond_true,eqGuard,binOp]
 simp [Zkx,Zkw,Zg2,Zg5,Op.intBits]
 rw [m16 x hx,m16 y hy]
 exact w16 _ (Nat.xor_lt_two_pow (n:=16) hx hy)
theorem op_xor16C (x:Nat) (t t':TypeId) (a:Nat) (hx:x < 65536):opVal Try.prog (Op.binOp .xor t (Operand.tmp a) (Operand.const (.int .u16 40961)) t) t' [a] [.int .u16 (x:Int)]=some (.int .u16 ((x ^^^ 40961:Nat):Int)):=by
 have ha:Nat.beq a a=true:=Nat.beq_refl a
 have h2:IntKind.u16.wrap ((x % 2 ^ IntKind.u16.bits ^^^ 40961 % 2 ^ IntKind.u16.bits:Nat):Int)=((x ^^^ 40961:Nat):Int):=by
  rw [m16 x hx,m16 40961 (by omega)]
  exact w16 _ (Nat.xor_lt_two_pow (n:=16) hx (by omega))
 simp only [opVal,Op.isSelect,cond_false,execOp,envR,lookT,ha,cond_true,eqGuard,binOp]
 simp [Zkx,Zkw,Zg2,Zg5,Op.intBits]
 exact h2
theorem op_and16 (x:Nat) (t t':TypeId) (a:Nat) (hx:x < 65536):opVal Try.prog (Op.binOp .and t (Operand.tmp a) (Operand.const (.int .u16 1)) t) t' [a] [.int .u16 (x:Int)]=some (.int .u16 ((x % 2:Nat):Int)):=by
 have ha:Nat.beq a a=true:=Nat.beq_refl a
 have h2:IntKind.u16.wrap ((x % 2 ^ IntKind.u16.bits &&& 1 % 2 ^ IntKind.u16.bits:Nat):Int)=((x % 2:Nat):Int):=by
  rw [m16 x hx,m16 1 (by omega),Nat.and_one_is_mod]
  exact w16 _ (by omega)
 simp only [opVal,Op.isSelect,cond_false,execOp,envR,lookT,ha,cond_true,eqGuard,binOp]
 simp [Zkx,Zkw,Zg2,Zg5,Op.intBits]
 exact h2
theorem op_shr16 (x:Nat) (t t2 t':TypeId) (a:Nat) (hx:x < 65536):opVal Try.prog (Op.binOp .shr t (Operand.tmp a) (Operand.const (.int .u64 1)) t2) t' [a] [.int .u16 (x:Int)]=some (.int .u16 ((x / 2:Nat):Int)):=by
 have ha:Nat.beq a a=true:=Nat.beq_refl a
 simp only [opVal,Op.isSelect,cond_false,execOp,envR,lookT,ha,cond_true,eqGuard,binOp]
 simp [Zkx,Zkw,Zg2,Zg5,Op.shift,IntKind.bits,Int.fdiv_eq_ediv_of_nonneg _ (show (0:Int)<=2 by omega)]
@[simp] theorem kBt (k:Nat):(EBt k).k=k:=rfl
def RBt (ps qs:List PV):Prop:=∃ x:Nat,x < 65536/\ps=[.v (.int .u16 (x:Int))]/\qs=[.v (.int .u16 (crc.cBit x:Int))]
def RBy (ps qs:List PV):Prop:=∃ x:Nat,x < 65536/\ps=[.v (.int .u16 (x:Int))]/\qs=[.v (.int .u16 (crc.cByte x:Int))]
theorem fBt:∀ ps q1 q2,RBt ps q1->RBt ps q2->q1=q2:=by
 rintro ps q1 q2 ⟨x,_,rfl,rfl⟩ ⟨y,_,h,rfl⟩
 simp only [List.cons.injEq,PV.v.injEq,Value.int.injEq,true_and,and_true,Int.ofNat_inj] at h
 rw [h]
theorem fBy:∀ ps q1 q2,RBy ps q1->RBy ps q2->q1=q2:=by
 rintro ps q1 q2 ⟨x,_,rfl,rfl⟩ ⟨y,_,h,rfl⟩
 simp only [List.cons.injEq,PV.v.injEq,Value.int.injEq,true_and,and_true,Int.ofNat_inj] at h
 rw [h]
theorem toldBt (k:Nat):ToldF 101 (EBt k) (spec RBt):=by
 refine Zbw mixed_ok names_ok (fun _ _=>none) [.num] ?_
 intro ps qs h _
 obtain ⟨x,hx,rfl,rfl⟩:=Zag h
 have o1:=op_and16 x 46 46 3 hx
 by_cases h1:x % 2=1
 ·have o2:=op_shr16 x 46 105 46 8 hx
  have hb:crc.cBit x=x / 2 ^^^ 40961:=by rw [crc.cBit,if_pos h1]
  rw [hb]
  have o3:=op_xor16C (x / 2) 46 46 9 (by omega)
  rw [h1] at o1
  generalize x / 2=y at *
  generalize y ^^^ 40961=z at *
  refine ⟨_,_,_,_,_,_,fil.noOrc_ok,b1,fun w FP=>?_,?_⟩
  ·simp [Zab,Zaa,Base.ev,SX.ev,evs,Value.oneCell',o1,o2,o3,binPV,Za8,PV.plain]
  ·simp [evs,SX.ev,o1,o2,o3,Za8,PV.plain]
 ·have o2:=op_shr16 x 46 105 46 6 hx
  have hb:crc.cBit x=x / 2:=by rw [crc.cBit,if_neg h1]
  rw [hb]
  rw [show x % 2=0 by omega] at o1
  generalize x / 2=y at *
  refine ⟨_,_,_,_,_,_,fil.noOrc_ok,b0,fun w FP=>?_,?_⟩
  ·simp [Zab,Zaa,Base.ev,SX.ev,evs,Value.oneCell',o1,o2,binPV,Za8,PV.plain]
  ·simp [evs,SX.ev,o1,o2,Za8,PV.plain]
noncomputable def FB:Fns:=fun k=>match k with | 1=>spec RBt | 2=>spec RBy | _=>fun _=>none
theorem s1:ToldF 101 (EBt 1) (FB 1):=toldBt 1
theorem step1 (x:Nat) (hx:x < 65536):∃ y,y=crc.cBit x/\y < 65536/\FB 1 [.v (.int .u16 (x:Int))]=some [.v (.int .u16 (y:Int))]:=⟨_,rfl,crc.cBit_lt hx,Zaf fBt ⟨x,hx,rfl,rfl⟩⟩
theorem toldBy (k:Nat):ToldF 91 (EBt k) (spec RBy):=by
 refine Zbw mixed_ok names_ok FB [.num] ?_
 intro ps qs h _
 obtain ⟨x,hx,rfl,rfl⟩:=Zag h
 obtain ⟨x1,e1,h1,g1⟩:=step1 x hx
 obtain ⟨x2,e2,h2,g2⟩:=step1 x1 h1
 obtain ⟨x3,e3,h3,g3⟩:=step1 x2 h2
 obtain ⟨x4,e4,h4,g4⟩:=step1 x3 h3
 obtain ⟨x5,e5,h5,g5⟩:=step1 x4 h4
 obtain ⟨x6,e6,h6,g6⟩:=step1 x5 h5
 obtain ⟨x7,e7,h7,g7⟩:=step1 x6 h6
 obtain ⟨x8,e8,h8,g8⟩:=step1 x7 h7
 have hq:crc.cByte x=x8:=by rw [e8,e7,e6,e5,e4,e3,e2,e1];rfl
 rw [hq]
 clear hq e1 e2 e3 e4 e5 e6 e7 e8
 refine ⟨_,_,_,_,_,_,Zae tabB,by8,fun w FP=>?_,?_⟩
 ·simp [Zab,Zaa,Base.ev,SX.ev,evs,Value.oneCell',g1,g2,g3,g4,g5,g6,g7,g8,msu.s1]
 ·simp [evs,SX.ev,g1,g2,g3,g4,g5,g6,g7,g8]
theorem s2:ToldF 91 (EBt 2) (FB 2):=toldBy 2
theorem cutS:flS=flS.take 3++.block (Zat (nth flS 3)) (.loop (Zaq (nth flS 3))) :: flS.drop 4:=by kernel_rfl
set_option maxHeartbeats 1000000 in
theorem toldSu (k:Nat):ToldF 78 (ECr k) (spec RCr):=by
 refine Zfx FB _ (Zam Try.prog 78) Try.func78 (by kernel_rfl) shS (by kernel_rfl) ?_ ?_
 ·intro ps qs h
  obtain ⟨l,_,rfl,rfl⟩:=Zag h
  exact Za7 rfl
 ·intro C ps qs hF h a w hsh
  obtain ⟨l,hl,rfl,rfl⟩:=Zag h
  show wpL Try.prog flS _ a w
  rw [cutS]
  have rl:=r_len l
  refine Zad names_ok mixed_ok (Zae tabS) spre hsh ?_ ?_
  ·simp [Base.ev,SX.ev,evs,Value.oneCell',rl]
  intro qs a1 w1 hq h1
  refine ⟨fun _=>?_,fun h=>absurd rfl h⟩
  simp [evs,SX.ev,rl] at hq
  subst hq
  refine Zbj (fun n a w=>∃ i,i<=l.length/\n=l.length - i/\Zah C shSl [.v (.int .u16 (crcB (l.take i):Int)),pBy l,pI (l.length:Int),pI (i:Int)] a w) ?_ (n:=l.length) ⟨0,by omega,by omega,h1⟩
  clear h1
  rintro n a w ⟨i,hi,rfl,hin⟩
  show wpL Try.prog lpS _ a w
  have hlt16:=Zll (l.take i)
  rw [<- List.append_nil lpS]
  by_cases hlt:i < l.length
  ·have c0:=bip.cellY l i hlt
   have ix:=Zgp l i 1 .i64 hlt (by decide)
   have v3:IntKind.i64.wrap ((i:Int)+1)=(i:Int)+1:=wrapI _ (by omega) (by omega)
   have hst:=crc_step l i hlt
   have hb8:=l[i].toNat_lt
   have vb:IntKind.u16.wrap (l[i].toNat:Int)=(l[i].toNat:Int):=w16 _ (by omega)
   have hx16:crcB (l.take i) ^^^ l[i].toNat < 65536:=Nat.xor_lt_two_pow (n:=16) hlt16 (by omega)
   have ox:=op_xor16 (crcB (l.take i)) l[i].toNat 46 46 12 14 rfl hlt16 (by omega)
   have g2:FB 2 [.v (.int .u16 ((crcB (l.take i) ^^^ l[i].toNat:Nat):Int))]=some [.v (.int .u16 (crc.cByte (crcB (l.take i) ^^^ l[i].toNat):Int))]:=Zaf fBy ⟨_,hx16,rfl,rfl⟩
   rw [<- hst] at g2
   have nx:∀ a w,Zah C shSl [.v (.int .u16 (crcB (l.take (i+1)):Int)),pBy l,pI (l.length:Int),pI ((i:Int)+1)] a w->∃ n',n' < l.length - i/\∃ i,i<=l.length/\n'=l.length - i/\Zah C shSl [.v (.int .u16 (crcB (l.take i):Int)),pBy l,pI (l.length:Int),pI (i:Int)] a w:=fun a w h=>⟨l.length - (i+1),by omega,i+1,by omega,rfl,h⟩
   generalize crcB (l.take (i+1))=y at *
   generalize crcB (l.take i)=z at *
   obtain ⟨x,hx⟩:∃ x:Nat,x=z ^^^ l[i].toNat:=⟨_,rfl⟩
   rw [<- hx] at ox g2
   clear hst hx16
   have hil:(i:Int) < (l.length:Int):=by omega
   refine Zad names_ok mixed_ok (Zae tabS) so hin ?_ (fun qs a1 w1 hq h1=>⟨fun _=>.inl ⟨rfl,nx a1 w1 (by simp [evs,SX.ev,hF,binPV,Zay,v3,c0,vb,ox,g2,Za8,PV.plain] at hq;subst hq;exact h1)⟩,fun h=>absurd rfl h⟩)
   simp [Zab,Zaa,Base.ev,SX.ev,evs,Value.oneCell',hF,binPV,Zay,rl,c0,ix,vb,ox,v3,hil,g2,msu.s2,Za8,PV.plain]
  ·have hie:i=l.length:=by omega
   subst hie
   rw [List.take_length] at hin hlt16
   refine Zad names_ok mixed_ok (Zae tabS) sx hin ?_ ?_
   ·simp [Base.ev,SX.ev,evs,Value.oneCell',binPV,rl]
   ·intro qs a2 w2 hq h2
    refine ⟨nofun,fun _=>.inr (.inl ⟨by rw [show Zat (nth flS 3)=0 by kernel_rfl];rfl,?_⟩)⟩
    simp [evs,SX.ev] at hq
    subst hq
    rw [<- List.append_nil (flS.drop 4)]
    refine Zad names_ok mixed_ok (Zae tabS) sp h2 ?_ ?_
    ·simp [Base.ev,SX.ev,evs,Value.oneCell',rl]
    intro qs a3 w3 hq h3
    refine ⟨nofun,fun _=>⟨.inr rfl,shSR,qs,[SX.var 0],h3,by kernel_rfl,?_⟩⟩
    simp [evs,SX.ev] at hq ⊢
    subst hq
    rfl
end Go.Proofs.Ytnomiffghidmbaa.msu
