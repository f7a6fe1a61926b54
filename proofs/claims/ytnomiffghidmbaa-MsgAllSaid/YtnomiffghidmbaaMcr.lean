/- The document's Crc and sealed, told. -/
import Derived.Test.YtnomiffghidmbaaRbt
import Derived.Laws.BitsAllLaws
namespace Go.Proofs.Ytnomiffghidmbaa.mcr
open Go Go.RowKit eng SX Fact fil ima symD msm
open bip (Zgp)
set_option linter.unusedVariables false
set_option linter.unusedSimpArgs false
set_option maxRecDepth 1000000
def ECr (k:Nat):FnE:={ k:=k,ins:=[none],leaks:=[false],outs:=[none],kinds:=[.num] }
def EPuR (k:Nat):FnE:={ k:=k,ins:=[none,none,none],leaks:=[false,false,false],outs:=[none],kinds:=[.row] }
def ESl (k:Nat):FnE:={ k:=k,ins:=[none],leaks:=[false],outs:=[none],kinds:=[.row] }
def tabZ (f:FuncId):Option FnE:=cond (Nat.beq f 65) (some (ECr 1)) (cond (Nat.beq f 39) (some (EPuR 2)) none)
noncomputable def flZ:=flat (Zam Try.prog 65)
noncomputable def lpZ:=flat (Zaq (nth flZ 3))
noncomputable def bkZ:=flat (Zik (nth lpZ 2))
noncomputable def lpY:=flat (Zaq (nth bkZ 2))
def shZ:Shape:=⟨[(0,.leaf)],[],[some false],33,65⟩
def shZl:Shape:=⟨[(0,.leaf),(3,.leaf),(4,.leaf)],[],[some false,none,none],33,65⟩
def shY:Shape:=⟨[(0,.leaf),(3,.leaf),(4,.leaf),(5,.leaf)],[],[some false,none,none,none],33,65⟩
def shZR:Shape:=⟨[(2,.leaf)],[],[none],33,65⟩
theorem zpre:segTo Try.prog fil.noOrc 10000 (flZ.take 3) shZ [] shZl []=some (.normal,[.ok (.con (.int .i64 0)),.ok (.con (.int .i64 0))],[.var 0,.con (.int .i64 0),.con (.int .i64 0)]):=by kernel_rfl
theorem zx:segTo Try.prog fil.noOrc 10000 lpZ shZl [0] shZl []=some (.exit 0,[.ok (.len (.var 0)),.ok (.bin .lss (.var 2) (.len (.var 0))),.is (.bin .lss (.var 2) (.len (.var 0))) (.bool false),.ok (.var 1),.ok (.var 2)],[.var 0,.var 1,.var 2]):=by kernel_rfl
theorem zh:segTo Try.prog fil.noOrc 10000 (lpZ.take 2) shZl [1] shZl []=some (.normal,[.ok (.len (.var 0)),.ok (.bin .lss (.var 2) (.len (.var 0))),.is (.bin .lss (.var 2) (.len (.var 0))) (.bool true),.ok (.var 1),.ok (.var 2)],[.var 0,.var 1,.var 2]):=by kernel_rfl
theorem zb:segTo Try.prog fil.noOrc 10000 (bkZ.take 2) shZl [] shY []=some (.normal,[.idx (.var 0) (.var 2) 1 1,.idx (.var 0) (.var 2) 1 1,.ok (.cell (.var 0) (.var 2) 1 0),.ok (.conv .i64 (.cell (.var 0) (.var 2) 1 0)),.ok (.op (Op.binOp .xor 3 (Operand.tmp 12) (Operand.tmp 17) 3) 3 [12,17] [.var 1,.conv .i64 (.cell (.var 0) (.var 2) 1 0)]),.ok (.op (Op.binOp .xor 3 (Operand.tmp 12) (Operand.tmp 17) 3) 3 [12,17] [.var 1,.conv .i64 (.cell (.var 0) (.var 2) 1 0)]),.ok (.var 2),.ok (.con (.int .i64 0))],[.var 0,.op (Op.binOp .xor 3 (Operand.tmp 12) (Operand.tmp 17) 3) 3 [12,17] [.var 1,.conv .i64 (.cell (.var 0) (.var 2) 1 0)],.var 2,.con (.int .i64 0)]):=by kernel_rfl
theorem yx:segTo Try.prog fil.noOrc 10000 lpY shY [0] shZl []=some (.exit 2,[.ok (.bin .lss (.var 3) (.con (.int .i64 8))),.is (.bin .lss (.var 3) (.con (.int .i64 8))) (.bool false),.ok (.var 1),.ok (.var 2)],[.var 0,.var 1,.var 2]):=by kernel_rfl
theorem y1:segTo Try.prog fil.noOrc 10000 lpY shY [1,1] shY []=some (.normal,[.ok (.bin .lss (.var 3) (.con (.int .i64 8))),.is (.bin .lss (.var 3) (.con (.int .i64 8))) (.bool true),.ok (.bin .rem (.var 1) (.con (.int .i64 2))),.ok (.bin .eql (.bin .rem (.var 1) (.con (.int .i64 2))) (.con (.int .i64 1))),.is (.bin .eql (.bin .rem (.var 1) (.con (.int .i64 2))) (.con (.int .i64 1))) (.bool true),.ok (.bin .quo (.var 1) (.con (.int .i64 2))),.ok (.op (Op.binOp .xor 3 (Operand.tmp 27) (Operand.const (.int .i64 40961)) 3) 3 [27] [.bin .quo (.var 1) (.con (.int .i64 2))]),.ok (.bin .add (.var 3) (.con (.int .i64 1))),.ok (.op (Op.binOp .xor 3 (Operand.tmp 27) (Operand.const (.int .i64 40961)) 3) 3 [27] [.bin .quo (.var 1) (.con (.int .i64 2))]),.ok (.var 2),.ok (.bin .add (.var 3) (.con (.int .i64 1)))],[.var 0,.op (Op.binOp .xor 3 (Operand.tmp 27) (Operand.const (.int .i64 40961)) 3) 3 [27] [.bin .quo (.var 1) (.con (.int .i64 2))],.var 2,.bin .add (.var 3) (.con (.int .i64 1))]):=by kernel_rfl
theorem y0:segTo Try.prog fil.noOrc 10000 lpY shY [1,0] shY []=some (.normal,[.ok (.bin .lss (.var 3) (.con (.int .i64 8))),.is (.bin .lss (.var 3) (.con (.int .i64 8))) (.bool true),.ok (.bin .rem (.var 1) (.con (.int .i64 2))),.ok (.bin .eql (.bin .rem (.var 1) (.con (.int .i64 2))) (.con (.int .i64 1))),.is (.bin .eql (.bin .rem (.var 1) (.con (.int .i64 2))) (.con (.int .i64 1))) (.bool false),.ok (.bin .quo (.var 1) (.con (.int .i64 2))),.ok (.bin .add (.var 3) (.con (.int .i64 1))),.ok (.bin .quo (.var 1) (.con (.int .i64 2))),.ok (.var 2),.ok (.bin .add (.var 3) (.con (.int .i64 1)))],[.var 0,.bin .quo (.var 1) (.con (.int .i64 2)),.var 2,.bin .add (.var 3) (.con (.int .i64 1))]):=by kernel_rfl
theorem zs:segTo Try.prog fil.noOrc 10000 (lpZ.drop 3) shZl [] shZl []=some (.normal,[.ok (.bin .add (.var 2) (.con (.int .i64 1))),.ok (.var 1),.ok (.bin .add (.var 2) (.con (.int .i64 1)))],[.var 0,.var 1,.bin .add (.var 2) (.con (.int .i64 1))]):=by kernel_rfl
theorem zp:segTo Try.prog fil.noOrc 10000 (flZ.drop 4) shZl [] shZR []=some (.ret,[.ok (.conv .u16 (.var 1)),.ok (.conv .u16 (.var 1))],[.conv .u16 (.var 1)]):=by kernel_rfl
theorem sl:runTo Try.prog (orcFn tabZ) 10000 41 (ESl 1) [.row] []=some ([.fn 65 (ECr 1) [.var 0],.ok (.fn 1 [.var 0] 0),.ok (.conv .i64 (.fn 1 [.var 0] 0)),.fn 39 (EPuR 2) [.var 0,.conv .i64 (.fn 1 [.var 0] 0),.con (.int .i64 2)]],[.fn 2 [.var 0,.conv .i64 (.fn 1 [.var 0] 0),.con (.int .i64 2)] 0]):=by kernel_rfl
theorem xor_fin (x y:Nat) (hx:x < 65536) (hy:y < 65536):IntKind.i64.wrap ((x % 2 ^ IntKind.i64.bits ^^^ y % 2 ^ IntKind.i64.bits:Nat):Int)=((x ^^^ y:Nat):Int):=by
 have h:x ^^^ y < 65536:=Nat.xor_lt_two_pow (n:=16) hx hy
 have e1:x % 2 ^ IntKind.i64.bits=x:=Nat.mod_eq_of_lt (by show x < 2 ^ 64;omega)
 have e2:y % 2 ^ IntKind.i64.bits=y:=Nat.mod_eq_of_lt (by show y < 2 ^ 64;omega)
 rw [e1,e2]
 exact wrapI _ (by omega) (by omega)
theorem op_xor (x y:Nat) (t t':TypeId) (a b:Nat) (hab:Nat.beq a b=false) (hx:x < 65536) (hy:y < 65536):opVal Try.prog (Op.binOp .xor t (Operand.tmp a) (Operand.tmp b) t) t' [a,b] [.int .i64 (x:Int),.int .i64 (y:Int)]=some (.int .i64 ((x ^^^ y:Nat):Int)):=by
 have hb:Nat.beq b b=true:=Nat.beq_refl b
 have ha:Nat.beq a a=true:=Nat.beq_refl a
 simp only [opVal,Op.isSelect,cond_false,execOp,envR,lookT,ha,hab,hb,cond_true,eqGuard,binOp]
 simp [Zkx,Zkw,Zg2,Zg5,Op.intBits]
 exact xor_fin x y hx hy
theorem op_xorC (x:Nat) (t t':TypeId) (a:Nat) (hx:x < 65536):opVal Try.prog (Op.binOp .xor t (Operand.tmp a) (Operand.const (.int .i64 40961)) t) t' [a] [.int .i64 (x:Int)]=some (.int .i64 ((x ^^^ 40961:Nat):Int)):=by
 have ha:Nat.beq a a=true:=Nat.beq_refl a
 have h2:=xor_fin x 40961 hx (by omega)
 simp only [opVal,Op.isSelect,cond_false,execOp,envR,lookT,ha,cond_true,eqGuard,binOp]
 simp [Zkx,Zkw,Zg2,Zg5,Op.intBits]
 exact h2
@[simp] theorem kCr (k:Nat):(ECr k).k=k:=rfl
@[simp] theorem kPuR (k:Nat):(EPuR k).k=k:=rfl
@[simp] theorem kSl (k:Nat):(ESl k).k=k:=rfl
def RCr (ps qs:List PV):Prop:=∃ l:List UInt8,l.length<=1000000/\ps=[pBy l]/\qs=[.v (.int .u16 (crcB l:Int))]
theorem fCr:∀ ps q1 q2,RCr ps q1->RCr ps q2->q1=q2:=by
 rintro ps q1 q2 ⟨l,_,rfl,rfl⟩ ⟨l',_,h,rfl⟩
 simp only [List.cons.injEq,and_true] at h
 rw [bip.pBy_inj h]
theorem cutZ:flZ=flZ.take 3++.block (Zat (nth flZ 3)) (.loop (Zaq (nth flZ 3))) :: flZ.drop 4:=by kernel_rfl
theorem cutZ2:lpZ=lpZ.take 2++.block (Zat (nth lpZ 2)) (Zik (nth lpZ 2)) :: lpZ.drop 3:=by kernel_rfl
theorem cutZ3:bkZ=bkZ.take 2++[.block (Zat (nth bkZ 2)) (.loop (Zaq (nth bkZ 2)))]:=by kernel_rfl
theorem crc_step (l:List UInt8) (i:Nat) (h:i < l.length):crcB (l.take (i+1))=crc.cByte (crcB (l.take i) ^^^ l[i].toNat):=by
 rw [List.take_add_one,List.getElem?_eq_getElem h]
 simp only [Option.toList_some,crcB,crc.cSum,List.map_append,List.foldl_append,List.map_cons,List.map_nil,List.foldl_cons,List.foldl_nil]
set_option maxHeartbeats 2000000 in
theorem loopY (C:Base) (l:List UInt8) (i:Nat) (c0:Nat) (hc0:c0 < 65536) (Q:Exit->Act->World->Prop) (R:List Code)
  (hQ:∀ a w,Zah C shZl [pBy l,pI (crc.cByte c0:Int),pI (i:Int)] a w->wpL Try.prog R Q a w) {a:Act} {w:World} (hin:Zah C shY [pBy l,pI (c0:Int),pI (i:Int),pI 0] a w) :
  wpL Try.prog (.block (Zat (nth bkZ 2)) (.loop (Zaq (nth bkZ 2))) :: R) Q a w:=by
 refine Zbj (fun n a w=>∃ k:Nat,k<=8/\n=8 - k/\Zah C shY [pBy l,pI (crc.cBits k c0:Int),pI (i:Int),pI (k:Int)] a w) ?_ (n:=8) ⟨0,by omega,by omega,hin⟩
 rintro n a w ⟨k,hk,rfl,hin⟩
 show wpL Try.prog lpY _ a w
 rw [<- List.append_nil lpY]
 have hlt16:=crc.cBits_lt k hc0
 by_cases hlt:k < 8
 ·have v3:IntKind.i64.wrap ((k:Int)+1)=(k:Int)+1:=wrapI _ (by omega) (by omega)
  have hst:=crc.cBits_succ k c0
  have next:∀ a w,Zah C shY [pBy l,pI (crc.cBit (crc.cBits k c0):Int),pI (i:Int),pI ((k:Int)+1)] a w->∃ n',n' < 8 - k/\∃ k:Nat,k<=8/\n'=8 - k/\Zah C shY [pBy l,pI (crc.cBits k c0:Int),pI (i:Int),pI (k:Int)] a w:=fun a w h=>⟨8 - (k+1),by omega,k+1,by omega,rfl,by rw [hst];exact h⟩
  generalize crc.cBits k c0=c at *
  have hki:(k:Int) < 8:=by omega
  have tm:(c:Int).tmod 2=((c % 2:Nat):Int):=rfl
  have td:(c:Int).tdiv 2=((c / 2:Nat):Int):=rfl
  have w1:IntKind.i64.wrap ((c / 2:Nat):Int)=((c / 2:Nat):Int):=wrapI _ (by omega) (by omega)
  by_cases h1:c % 2=1
  ·have ox:=op_xorC (c / 2) 3 3 27 (by omega)
   have hb:crc.cBit c=c / 2 ^^^ 40961:=by rw [crc.cBit,if_pos h1]
   rw [hb] at next
   obtain ⟨e,he⟩:∃ e:Nat,e=c / 2:=⟨_,rfl⟩
   rw [<- he] at td w1 ox next
   obtain ⟨x,hx⟩:∃ x:Nat,x=e ^^^ 40961:=⟨_,rfl⟩
   rw [<- hx] at ox next
   have h1i:((c % 2:Nat):Int)=1:=by omega
   refine Zad names_ok mixed_ok fil.noOrc_ok y1 hin ?_ ?_
   ·simp only [fmC,fmN]
    simp only [Zmw,Zp5,Base.ev,SX.ev,evs,Base.with,binPV,tm,td,w1,v3,h1i,ox,Za8,PV.plain,Option.bind_some,Option.map_some,List.getElem?_cons_zero,List.getElem?_cons_succ]
    simp [Value.oneCell',hki,hlt,w1,v3,h1i,ox,Za8,PV.plain]
   ·intro qs a1 w1' hq h1'
    simp [evs,SX.ev,binPV,v3,td,w1,ox,Za8,PV.plain] at hq
    subst hq
    exact ⟨fun _=>.inl ⟨rfl,next a1 w1' h1'⟩,fun h=>absurd rfl h⟩
  ·have hb:crc.cBit c=c / 2:=by rw [crc.cBit,if_neg h1]
   rw [hb] at next
   obtain ⟨e,he⟩:∃ e:Nat,e=c / 2:=⟨_,rfl⟩
   rw [<- he] at td w1 next
   obtain ⟨y,hy⟩:∃ y:Nat,y=c % 2:=⟨_,rfl⟩
   rw [<- hy] at tm h1
   refine Zad names_ok mixed_ok fil.noOrc_ok y0 hin ?_ ?_
   ·simp [Zab,Zaa,Base.ev,SX.ev,evs,Value.oneCell',binPV,tm,td,w1,v3,h1,hki,hlt]
    all_goals omega
   ·intro qs a1 w1' hq h1'
    simp [evs,SX.ev,binPV,v3,td,w1] at hq
    subst hq
    exact ⟨fun _=>.inl ⟨rfl,next a1 w1' h1'⟩,fun h=>absurd rfl h⟩
 ·obtain rfl:k=8:=by omega
  refine Zad names_ok mixed_ok fil.noOrc_ok yx hin ?_ ?_
  ·simp [Base.ev,SX.ev,evs,Value.oneCell',binPV]
  ·intro qs a1 w1 hq h1
   simp [evs,SX.ev] at hq
   subst hq
   exact ⟨nofun,fun _=>.inr (.inl ⟨by rw [show Zat (nth bkZ 2)=2 by kernel_rfl];rfl,hQ _ _ h1⟩)⟩
set_option maxHeartbeats 2000000 in
theorem toldCr (k:Nat):ToldF 65 (ECr k) (spec RCr):=by
 refine Zfx (fun _ _=>none) _ (Zam Try.prog 65) Try.func65 (by kernel_rfl) shZ (by kernel_rfl) ?_ ?_
 ·intro ps qs h
  obtain ⟨l,_,rfl,rfl⟩:=Zag h
  exact Za7 rfl
 ·intro C ps qs hF h a w hsh
  obtain ⟨l,hl,rfl,rfl⟩:=Zag h
  show wpL Try.prog flZ _ a w
  rw [cutZ]
  have rl:=r_len l
  refine Zad names_ok mixed_ok fil.noOrc_ok zpre hsh ?_ ?_
  ·simp [Base.ev,SX.ev,evs,Value.oneCell',rl]
  intro qs a1 w1 hq h1
  refine ⟨fun _=>?_,fun h=>absurd rfl h⟩
  simp [evs,SX.ev] at hq
  subst hq
  refine Zbj (fun n a w=>∃ i,i<=l.length/\n=l.length - i/\Zah C shZl [pBy l,pI (crcB (l.take i):Int),pI (i:Int)] a w) ?_ (n:=l.length) ⟨0,by omega,by omega,h1⟩
  rintro n a w ⟨i,hi,rfl,hin⟩
  show wpL Try.prog lpZ _ a w
  have hlt16:=Zll (l.take i)
  by_cases hlt:i < l.length
  ·have c0:=bip.cellY l i hlt
   have ix:=Zgp l i 1 .i64 hlt (by decide)
   have v3:IntKind.i64.wrap ((i:Int)+1)=(i:Int)+1:=wrapI _ (by omega) (by omega)
   have hst:=crc_step l i hlt
   have hb8:=l[i].toNat_lt
   have vb:IntKind.i64.wrap (l[i].toNat:Int)=(l[i].toNat:Int):=wrapI _ (by omega) (by omega)
   obtain ⟨Q',hQ'⟩:∃ Q':Exit->Act->World->Prop,Q'=(fun e a' w'=>(e=.normal/\∃ n',n' < l.length - i/\∃ i,i<=l.length/\n'=l.length - i/\Zah C shZl [pBy l,pI (crcB (l.take i):Int),pI (i:Int)] a' w') \/ (e=.exit (Zat (nth flZ 3))/\wpL Try.prog (flZ.drop 4) (fun e a' w'=>(e=.normal \/ e=.ret)/\∃ sh' ps' es,Zah C sh' ps' a' w'/\resTo Try.prog Try.f65 sh' (ECr k)=some es/\evs (fun i=>ps'[i]?) (fun _ _=>none) es=some [.v (.int .u16 (crcB l:Int))]) a' w') \/ (e=.ret/\((Exit.ret=.normal \/ Exit.ret=.ret)/\∃ sh' ps' es,Zah C sh' ps' a' w'/\resTo Try.prog Try.f65 sh' (ECr k)=some es/\evs (fun i=>ps'[i]?) (fun _ _=>none) es=some [.v (.int .u16 (crcB l:Int))]))):=⟨_,rfl⟩
   have step:∀ a w,Zah C shZl [pBy l,pI (crc.cByte (crcB (l.take i) ^^^ l[i].toNat):Int),pI (i:Int)] a w->wpL Try.prog (lpZ.drop 3) Q' a w:=by
    intro a w hin
    rw [hQ',<- List.append_nil (lpZ.drop 3)]
    refine Zad names_ok mixed_ok fil.noOrc_ok zs hin ?_ ?_
    ·simp [Base.ev,SX.ev,evs,Value.oneCell',binPV,v3,rl]
    ·intro qs a2 w2 hq h2
     simp [evs,SX.ev,binPV,v3] at hq
     subst hq
     exact ⟨fun _=>.inl ⟨rfl,l.length - (i+1),by omega,i+1,by omega,rfl,by rw [hst];exact h2⟩,fun h=>absurd rfl h⟩
   rw [<- hQ',cutZ2]
   clear hQ' hst
   have hx16:crcB (l.take i) ^^^ l[i].toNat < 65536:=Nat.xor_lt_two_pow (n:=16) hlt16 (by omega)
   have ox:=op_xor (crcB (l.take i)) l[i].toNat 3 3 12 17 rfl hlt16 (by omega)
   obtain ⟨x,hx⟩:∃ x:Nat,x=crcB (l.take i) ^^^ l[i].toNat:=⟨_,rfl⟩
   rw [<- hx] at ox hx16 step
   refine Zad names_ok mixed_ok fil.noOrc_ok zh hin ?_ ?_
   ·simp [Base.ev,SX.ev,evs,Value.oneCell',binPV,rl,hlt]
   intro qs a2 w2 hq h2
   refine ⟨fun _=>?_,fun h=>absurd rfl h⟩
   simp [evs,SX.ev] at hq
   subst hq
   refine block_in ?_
   show wpL Try.prog bkZ _ a2 w2
   rw [cutZ3]
   refine Zad names_ok mixed_ok fil.noOrc_ok zb h2 ?_ ?_
   ·simp [Zab,Zaa,Base.ev,SX.ev,evs,Value.oneCell',binPV,Zay,rl,c0,ix,vb,ox,Za8,PV.plain]
   intro qs a3 w3 hq h3
   refine ⟨fun _=>?_,fun h=>absurd rfl h⟩
   simp [evs,SX.ev,binPV,Zay,c0,vb,ox,Za8,PV.plain] at hq
   subst hq
   exact loopY C l i x hx16 _ [] (fun a w h=>.inl ⟨rfl,step a w h⟩) h3
  ·have hie:i=l.length:=by omega
   subst hie
   rw [List.take_length] at hin hlt16
   have w16:IntKind.u16.wrap (crcB l:Int)=(crcB l:Int):=by
    show (crcB l:Int) % 65536=_
    omega
   rw [<- List.append_nil lpZ]
   refine Zad names_ok mixed_ok fil.noOrc_ok zx hin ?_ ?_
   ·simp [Base.ev,SX.ev,evs,Value.oneCell',binPV,rl]
   ·intro qs a2 w2 hq h2
    refine ⟨nofun,fun _=>.inr (.inl ⟨by rw [show Zat (nth flZ 3)=0 by kernel_rfl];rfl,?_⟩)⟩
    simp [evs,SX.ev] at hq
    subst hq
    rw [<- List.append_nil (flZ.drop 4)]
    refine Zad names_ok mixed_ok fil.noOrc_ok zp h2 ?_ ?_
    ·simp [Base.ev,SX.ev,evs,Value.oneCell',Zay,w16,rl]
    intro qs a3 w3 hq h3
    refine ⟨nofun,fun _=>⟨.inr rfl,shZR,qs,[SX.var 0],h3,by kernel_rfl,?_⟩⟩
    simp [evs,SX.ev,Zay,w16] at hq ⊢
    subst hq
    rfl
end Go.Proofs.Ytnomiffghidmbaa.mcr
