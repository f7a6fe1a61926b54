/- Numbers and texts as bytes (package bits), taken: told. -/
import Derived.Test.YtpnegheknjeljaaGreatBiq
namespace Go.Proofs.YtpnegheknjeljaaGreat.bip
open Go Go.RowKit eng SX Fact fil ima symD
set_option linter.unusedVariables false
set_option linter.unusedSimpArgs false
set_option maxRecDepth 1000000

def ENb (k:Nat):FnE:={ k:=k,ins:=[none],leaks:=[false],outs:=[none],kinds:=[.num] }
def ETkB (k:Nat):FnE:={ k:=k,ins:=[none,none],leaks:=[false,false],outs:=[none,none],kinds:=[.num,.truth] }
def ETtB (k:Nat):FnE:={ k:=k,ins:=[none],leaks:=[false],outs:=[none,none,none],kinds:=[.num,.num,.truth] }
def tabN (f:FuncId):Option FnE:=cond (Nat.beq f 172) (some (ENb 1)) none
noncomputable def flN:=flat (Zat Tryz.prog 172)
noncomputable def lpN:=flat (Zaq (nth flN 3))
def shN0:Shape:=⟨[(0,.leaf)],[],[some false],19,172⟩
def shN1:Shape:=⟨[(3,.leaf),(6,.leaf),(7,.leaf),(8,.leaf)],[],[none,some false,none,none],19,172⟩
def shNR:Shape:=⟨[(2,.leaf)],[],[none],19,172⟩
def hCv (_:FuncId) (o:Oper):Option Hint:=match o.op with | .convert ..=>some .own | .slice ..=>some .own | _=>none
@[simp] def Zdl:SX:=.bin .add (.con (.int .i64 1)) (.fn 1 [SX.sub (.var 0) (rop ROp.min2 [.con (.int .i64 0),.con (.int .i64 0)]) (.con (.int .i64 1)) 1] 0)
@[simp] def Zgw:SX:=rop ROp.toStr [SX.sub (SX.sub (.var 0) (rop ROp.min2 [.con (.int .i64 0),.con (.int .i64 0)]) Zdl 1) (rop ROp.min2 [.con (.int .i64 1),.con (.int .i64 1)]) (.len (SX.sub (.var 0) (rop ROp.min2 [.con (.int .i64 0),.con (.int .i64 0)]) Zdl 1)) 1]
@[simp] def Zbo:SX:=rop ROp.min2 [.con (.int .i64 0),.con (.int .i64 0)]
@[simp] def Zl2:SX:=.op (Op.binOp .or 3 (Operand.tmp 13) (Operand.tmp 15) 3) 3 [13,15] [.op (Op.binOp .shl 3 (Operand.tmp 12) (Operand.const (.int .u64 (Int.ofNat 8))) 148) 3 [12] [.var 0],.conv .i64 (.cell (.var 1) (.var 3) 1 0)]
@[simp] def Ze8:SX:=.bin .gtr (.con (.int .i64 1)) (.len (.var 0))
@[simp] def Zaz:SX:=.con (.int .i64 1)
@[simp] def Zjn:SX:=.bin .gtr (.var 1) (.con (.int .i64 7))
@[simp] def Zjm:SX:=.bin .gtr Zdl (.len (.var 0))
@[simp] def zGreatBir9:List SX:=[.con (.string { data:={ toList:=[] } }),.con (.int .i64 0),.con (.bool false)]
@[simp] def Zhy:SX:=.bin .gtr (.var 1) (.len (.var 0))
@[simp] def Zb7:Fact:=.ok (.len (.var 0))
theorem npre:segTo Tryz.prog fil.noOrc 10000 (flN.take 3) shN0 [] shN1 []=some (.normal,[Zb7,.ok (.con (.int .i64 0)),Zb7,.ok (.con (.int .i64 0))],[.con (.int .i64 0),.var 0,.len (.var 0),.con (.int .i64 0)]):=by kernel_rfl
theorem nx:segTo Tryz.prog fil.noOrc 10000 lpN shN1 [0] shN1 []=some (.exit 0,[.ok (.bin .lss (.var 3) (.var 2)),.is (.bin .lss (.var 3) (.var 2)) (.bool false),.ok (.var 0),.ok (.var 2),.ok (.var 3)],[.var 0,.var 1,.var 2,.var 3]):=by kernel_rfl
theorem no:segTo Tryz.prog fil.noOrc 10000 lpN shN1 [1] shN1 []=some (.normal,[.ok (.bin .lss (.var 3) (.var 2)),.is (.bin .lss (.var 3) (.var 2)) (.bool true),.idx (.var 1) (.var 3) 1 1,.idx (.var 1) (.var 3) 1 1,.ok (.cell (.var 1) (.var 3) 1 0),.ok (.op (Op.binOp .shl 3 (Operand.tmp 12) (Operand.const (.int .u64 (Int.ofNat 8))) 148) 3 [12] [.var 0]),.ok (.conv .i64 (.cell (.var 1) (.var 3) 1 0)),.ok Zl2,.ok (.bin .add (.var 3) Zaz),.ok Zl2,.ok (.var 2),.ok (.bin .add (.var 3) Zaz)],[Zl2,.var 1,.var 2,.bin .add (.var 3) Zaz]):=by kernel_rfl
theorem npost:segTo Tryz.prog fil.noOrc 10000 (flN.drop 4) shN1 [] shNR []=some (.ret,[.ok (.var 0)],[.var 0]):=by kernel_rfl
theorem t0:runTo Tryz.prog (orcFn tabN) 10000 159 (ETkB 2) [.row,.num] [0,0,0]=some ([.ok (.var 1),.ok (.bin .lss (.var 1) Zaz),.is (.bin .lss (.var 1) Zaz) (.bool false),.ok Zjn,.is Zjn (.bool false),Zb7,.ok Zhy,.is Zhy (.bool false),le3 Zbo (.var 1) (.len (.var 0)),.fn 172 (ENb 1) [SX.sub (.var 0) Zbo (.var 1) 1],.ok (.fn 1 [SX.sub (.var 0) Zbo (.var 1) 1] 0)],[.fn 1 [SX.sub (.var 0) Zbo (.var 1) 1] 0,.con (.bool true)]):=by kernel_rfl
theorem t1:runTo Tryz.prog (orcFn tabN) 10000 159 (ETkB 2) [.row,.num] [0,0,1]=some ([.ok (.var 1),.ok (.bin .lss (.var 1) Zaz),.is (.bin .lss (.var 1) Zaz) (.bool false),.ok Zjn,.is Zjn (.bool false),Zb7,.ok Zhy,.is Zhy (.bool true)],[.con (.int .i64 0),.con (.bool false)]):=by kernel_rfl
theorem x0:runTo Tryz.prog (orcFn tabN) 10000 161 (ETtB 2) [.row] [0,0] hCv=some ([Zb7,.ok Ze8,.is Ze8 (.bool false),le3 Zbo Zaz (.len (.var 0)),.fn 172 (ENb 1) [SX.sub (.var 0) Zbo Zaz 1],.ok (.fn 1 [SX.sub (.var 0) Zbo Zaz 1] 0),.ok Zdl,Zb7,.ok Zjm,.is Zjm (.bool false),le3 Zbo Zdl (.len (.var 0)),le3 (rop ROp.min2 [Zaz,Zaz]) (.len (SX.sub (.var 0) Zbo Zdl 1)) (.len (SX.sub (.var 0) Zbo Zdl 1)),.ok Zgw,.ok (.slen Zgw),.ok (.bin .add Zaz (.slen Zgw))],[Zgw,.bin .add Zaz (.slen Zgw),.con (.bool true)]):=by kernel_rfl
theorem x1:runTo Tryz.prog (orcFn tabN) 10000 161 (ETtB 2) [.row] [1] hCv=some ([Zb7,.ok Ze8,.is Ze8 (.bool true)],zGreatBir9):=by kernel_rfl
theorem x2:runTo Tryz.prog (orcFn tabN) 10000 161 (ETtB 2) [.row] [0,1] hCv=some ([Zb7,.ok Ze8,.is Ze8 (.bool false),le3 Zbo Zaz (.len (.var 0)),.fn 172 (ENb 1) [SX.sub (.var 0) Zbo Zaz 1],.ok (.fn 1 [SX.sub (.var 0) Zbo Zaz 1] 0),.ok Zdl,Zb7,.ok Zjm,.is Zjm (.bool true)],zGreatBir9):=by kernel_rfl

@[simp] theorem kNb (k:Nat):(ENb k).k=k:=rfl
@[simp] theorem kTkB (k:Nat):(ETkB k).k=k:=rfl
@[simp] theorem kTtB (k:Nat):(ETtB k).k=k:=rfl
theorem op_shl (v:Int) (t t' u:TypeId) (a k:Nat) (c:Int) (hc:c=(k:Int)) (hk:k < 64):opVal Tryz.prog (Op.binOp .shl t (Operand.tmp a) (Operand.const (.int .u64 c)) u) t' [a] [.int .i64 v]=some (.int .i64 (IntKind.i64.wrap (v * 2 ^ k))):=by
 subst hc
 have ha:Nat.beq a a=true:=Nat.beq_refl a
 have h0:¬ ((k:Int) < 0):=by omega
 have h2:min k 64=k:=by omega
 simp only [opVal,Op.isSelect,cond_false,execOp,envR,lookT,ha,cond_true,eqGuard,binOp]
 simp [Zre,Zrd,Zp8,Zqa,Op.shift,h0,IntKind.bits,h2]
theorem op_or (x y:Int) (t t':TypeId) (a b:Nat) (hab:Nat.beq a b=false):opVal Tryz.prog (Op.binOp .or t (Operand.tmp a) (Operand.tmp b) t) t' [a,b] [.int .i64 x,.int .i64 y]=some (.int .i64 (bits .or .i64 x y)):=by
 have hb:Nat.beq b b=true:=Nat.beq_refl b
 have ha:Nat.beq a a=true:=Nat.beq_refl a
 simp only [opVal,Op.isSelect,cond_false,execOp,envR,lookT,ha,hab,hb,cond_true,eqGuard,binOp]
 simp [Zre,Zrd,Zp8,Zqa,Op.intBits]
 try rfl
theorem i64_or (a b:Nat) (ha:a < 18446744073709551616) (hb:b < 18446744073709551616) (hab:a ||| b < 9223372036854775808):bits .or .i64 (a:Int) (b:Int)=((a ||| b:Nat):Int):=by
 show IntKind.i64.wrap ((BitVec.ofInt 64 (a:Int) ||| BitVec.ofInt 64 (b:Int)).toNat:Int)=_
 have h1:∀ n:Nat,n < 18446744073709551616->(BitVec.ofInt 64 (n:Int)).toNat=n:=fun n hn=>by
  rw [BitVec.toNat_ofInt]
  omega
 rw [BitVec.toNat_or,h1 a ha,h1 b hb,IntKind.wrap_i64]
 omega
theorem or_low (d z:Nat) (hz:z < 256):(d * 256) ||| z=d * 256+z:=by
 have:=Nat.shiftLeft_add_eq_or_of_lt (i:=8) (b:=z) (by omega) d
 rw [Nat.shiftLeft_eq] at this
 exact this.symm
theorem step_or (v:Int) (b:UInt8) (h0:0<=v) (h1:v < 281474976710656):bits .or .i64 (IntKind.i64.wrap (v * 256)) (b.toNat:Int)=v * 256+(b.toNat:Int):=by
 obtain ⟨n,rfl⟩:∃ n:Nat,v=(n:Int):=⟨v.toNat,by omega⟩
 have hb:=b.toNat_lt
 have hz:=or_low n b.toNat hb
 rw [wrapI _ (by omega) (by omega),show (n:Int) * 256=((n * 256:Nat):Int) by omega,i64_or _ _ (by omega) (by omega) (by rw [hz];omega),hz]
 omega
theorem cellY (l:List UInt8) (i:Nat) (h:i < l.length):Zc1 (pBy l) (pI (i:Int)) 1 0=some (pU (l[i].toNat:Int)):=by
 rw [Zma,Zbe encY l i .i64 1 0 rfl h,Zco encY l i 0 _ (List.getElem?_eq_getElem h) (by decide)];rfl
def RNb (ps qs:List PV):Prop:=∃ l:List UInt8,l.length<=7/\ps=[pBy l]/\qs=[pI (num l)]
theorem fNb:∀ ps q1 q2,RNb ps q1->RNb ps q2->q1=q2:=by
 rintro ps q1 q2 ⟨l,_,rfl,rfl⟩ ⟨l',_,h,rfl⟩
 simp only [List.cons.injEq,and_true] at h
 rw [Zgi h]
theorem cutN:flN=flN.take 3++.block (Zbj (nth flN 3)) (.loop (Zaq (nth flN 3))) :: flN.drop 4:=by kernel_rfl
theorem num_take {l:List UInt8} {i:Nat} (h:i < l.length):num (l.take (i+1))=num (l.take i) * 256+(l[i].toNat:Int):=by
 rw [List.take_succ_eq_append_getElem h,num_snoc]
theorem toldNb (k:Nat):ToldF 172 (ENb k) (spec RNb):=by
 refine Zm9 (fun _ _=>none) _ (Zat Tryz.prog 172) Tryz.func172 (by kernel_rfl) shN0 (by kernel_rfl) ?_ ?_
 ·intro ps qs h
  obtain ⟨l,_,rfl,rfl⟩:=Zah h
  exact Zc0 rfl
 ·intro C ps qs hF h a w hsh
  obtain ⟨l,hl,rfl,rfl⟩:=Zah h
  show wpL Tryz.prog flN _ a w
  rw [cutN]
  have rl:=r_len l
  refine Zae names_ok mixed_ok fil.noOrc_ok npre hsh ?_ (fun qs a1 wd hq hx=>⟨fun _=>?_,fun h=>absurd rfl h⟩)
  ·simp [Zab,Zaa,Base.ev,SX.ev,evs,Value.oneCell',rl]
  simp [evs,SX.ev,rl] at hq
  subst hq
  refine Zds (fun m a w=>∃ i:Nat,m=l.length - i/\i<=l.length/\Zam C shN1 [pI (num (l.take i)),pBy l,pI (l.length:Int),pI (i:Int)] a w) ?_ (n:=l.length) ⟨0,by omega,by omega,hx⟩
  rintro m a w ⟨i,rfl,hi,hx⟩
  rw [<- List.append_nil (flat _)]
  by_cases hlt:i < l.length
  ·have v4:IntKind.i64.wrap ((i:Int)+1)=(i:Int)+1:=wrapI _ (by omega) (by omega)
   have cy:=cellY l i hlt
   have ix:=idxP_by l i 1 .i64 hlt (by omega)
   have n0:=num_nonneg (l.take i)
   have n1:=num_lt (l.take i)
   have hn1:num (l.take i) < 281474976710656:=by
    have:(256:Int) ^ (l.take i).length<=256 ^ 6:=by
     have h6:(l.take i).length<=6:=by rw [List.length_take];omega
     exact_mod_cast Nat.pow_le_pow_right (n:=256) (by omega) h6
    omega
   have so:=step_or (num (l.take i)) l[i] n0 hn1
   rw [<- num_take hlt] at so
   have wu:IntKind.i64.wrap (l[i].toNat:Int)=(l[i].toNat:Int):=wrapI _ (by omega) (by have:=l[i].toNat_lt;omega)
   have o1:=op_shl (num (l.take i)) 3 3 148 12 8 8 rfl (by omega)
   rw [show (2:Int) ^ 8=256 from rfl] at o1
   have o2:=op_or (IntKind.i64.wrap (num (l.take i) * 256)) (l[i].toNat:Int) 3 3 13 15 rfl
   rw [so] at o2
   generalize IntKind.i64.wrap (num (l.take i) * 256)=z at *
   refine Zae names_ok mixed_ok fil.noOrc_ok no hx ?_ (fun qs a1 wd hq hx=>⟨fun _=>.inl ⟨rfl,l.length - (i+1),by omega,i+1,rfl,by omega,?_⟩,fun h=>absurd rfl h⟩)
   ·simp [Zab,Zaa,Base.ev,SX.ev,evs,Value.oneCell',binPV,Zig,Zcb,PV.plain,v4,cy,ix,wu,o1,o2,hlt]
   ·simp [evs,SX.ev,binPV,Zig,Zcb,PV.plain,v4,cy,wu,o1,o2] at hq
    subst hq
    exact hx
  ·obtain rfl:i=l.length:=by omega
   rw [List.take_length] at hx
   refine Zae names_ok mixed_ok fil.noOrc_ok nx hx ?_ (fun qs a1 wd hq hx=>⟨nofun,fun _=>.inr (.inl ⟨rfl,?_⟩)⟩)
   ·simp [Zab,Zaa,Base.ev,SX.ev,evs,Value.oneCell',binPV]
   simp [evs,SX.ev] at hq
   subst hq
   rw [<- List.append_nil (flN.drop 4)]
   refine Zae names_ok mixed_ok fil.noOrc_ok npost hx ?_ (fun qs a1 wd hq hx=>⟨nofun,fun _=>⟨.inr rfl,shNR,_,[SX.var 0],hx,by kernel_rfl,?_⟩⟩)
   ·simp [Base.ev,SX.ev,evs,Value.oneCell']
   ·simp [evs,SX.ev] at hq
    subst hq
    rfl

@[simp] theorem ex_0p (p:Nat->Prop):(∃ z:Nat,(0:Int)=(z:Int)/\p z) ↔ p 0:=⟨fun ⟨z,h,hp⟩=>by rw [show (0:Nat)=z by omega];exact hp,fun h=>⟨0,rfl,h⟩⟩
@[simp] theorem ex_1p (p:Nat->Prop):(∃ z:Nat,(1:Int)=(z:Int)/\p z) ↔ p 1:=⟨fun ⟨z,h,hp⟩=>by rw [show (1:Nat)=z by omega];exact hp,fun h=>⟨1,rfl,h⟩⟩
noncomputable def FN:Fns:=fun k=>match k with | 1=>spec RNb | _=>fun _=>none
theorem qq1:ToldF 172 (ENb 1) (FN 1):=toldNb 1
theorem Zpp (l:List UInt8) (a b:Nat) (h1:a<=b) (h2:b<=l.length):subPV (pBy l) (pI (a:Int)) (pI (b:Int)) 1=some (pBy ((l.drop a).take (b - a))):=by
 have g1:(0:Int)<=(a:Int):=by omega
 have g2:(a:Int)<=(b:Int):=by omega
 have g3:(b:Int)<=(l.length:Int):=by omega
 simp [subPV,pBy,g1,g2,g3,List.map_drop,List.map_take]
 omega
def RTkB (ps qs:List PV):Prop:=∃ (l:List UInt8) (n:Nat),l.length<=1000000/\1<=n/\n<=7/\ps=[pBy l,pI (n:Int)]/\qs=if n<=l.length then [pI (num (l.take n)),pB true] else [pI 0,pB false]
theorem fTkB:∀ ps q1 q2,RTkB ps q1->RTkB ps q2->q1=q2:=by
 rintro ps q1 q2 ⟨l,n,_,_,_,rfl,rfl⟩ ⟨l',n',_,_,_,h,rfl⟩
 simp only [List.cons.injEq,PV.v.injEq,Value.int.injEq,true_and,and_true,Int.ofNat_inj] at h
 rw [Zgi h.1,h.2]
theorem toldTkB (k:Nat):ToldF 159 (ETkB k) (spec RTkB):=by
 refine Zgh mixed_ok names_ok FN [.row,.num] ?_
 intro ps qs h _
 obtain ⟨l,n,hl,h1,h7,rfl,rfl⟩:=Zah h
 have rl:=r_len l
 have d1:¬ ((n:Int) < 1):=by omega
 have d2:¬ ((7:Int) < (n:Int)):=by omega
 by_cases hn:n<=l.length
 ·rw [if_pos hn]
  have d3:¬ ((l.length:Int) < (n:Int)):=by omega
  have rs:=Zpp l 0 n (by omega) hn
  simp only [List.drop_zero,Nat.sub_zero] at rs
  have g1:FN 1 [pBy (l.take n)]=some [pI (num (l.take n))]:=Zap fNb ⟨l.take n,by rw [List.length_take];omega,rfl,rfl⟩
  have rs0:subPV (pBy l) (pI 0) (pI (n:Int)) 1=some (pBy (l.take n)):=rs
  have rm:ropPV .min2 [pI 0,pI 0]=some (pI 0):=rfl
  generalize num (l.take n)=z at *
  generalize l.take n=y at *
  refine ⟨_,_,_,_,_,_,Zar tabN,t0,fun w FP=>?_,?_⟩
  ·simp [Zab,Zaa,Base.ev,SX.ev,evs,Value.oneCell',g1,qq1,binPV,rl,d1,d2,d3,rs0,rm]
   all_goals omega
  ·simp [evs,SX.ev,g1,rs0,rm]
 ·rw [if_neg hn]
  have d3:(l.length:Int) < (n:Int):=by omega
  refine ⟨_,_,_,_,_,_,Zar tabN,t1,fun w FP=>?_,?_⟩
  ·simp [Zab,Zaa,Base.ev,SX.ev,evs,Value.oneCell',binPV,rl,d1,d2,d3]
  ·simp [evs,SX.ev]
def mayT (l:List UInt8):Bool:=decide (1<=l.length) && decide ((l.getD 0 0).toNat+1<=l.length)
def txL (l:List UInt8):ByteArray:=⟨((l.drop 1).take (l.getD 0 0).toNat).toArray⟩
def RTtB (ps qs:List PV):Prop:=∃ l:List UInt8,l.length<=1000000/\ps=[pBy l]/\qs=if mayT l=true then [pS (txL l),pI (((l.getD 0 0).toNat+1:Nat):Int),pB true] else [pS ⟨⟨[]⟩⟩,pI 0,pB false]
theorem fTtB:∀ ps q1 q2,RTtB ps q1->RTtB ps q2->q1=q2:=by
 rintro ps q1 q2 ⟨l,_,rfl,rfl⟩ ⟨l',_,h,rfl⟩
 simp only [List.cons.injEq,and_true] at h
 rw [Zgi h]
theorem toldTtB (k:Nat):ToldF 161 (ETtB k) (spec RTtB):=by
 refine Zgh mixed_ok names_ok FN [.row] ?_
 intro ps qs h _
 obtain ⟨l,hl,rfl,rfl⟩:=Zah h
 have rl:=r_len l
 have rm:ropPV .min2 [pI 0,pI 0]=some (pI 0):=rfl
 have rm1:ropPV .min2 [pI 1,pI 1]=some (pI 1):=rfl
 by_cases h1:1<=l.length
 rotate_left
 ·have hm:mayT l=false:=by simp [mayT,h1]
  rw [hm,if_neg (by simp)]
  have d1:(l.length:Int) < 1:=by omega
  refine ⟨_,_,_,_,_,_,Zar tabN,x1,fun w FP=>?_,?_⟩
  ·simp [Zab,Zaa,Base.ev,SX.ev,evs,Value.oneCell',binPV,rl,d1]
  ·simp [evs,SX.ev]
 have d1:¬ ((l.length:Int) < 1):=by omega
 have e1:l.take 1=[l.getD 0 0]:=by
  match l,h1 with
  | b :: r,_=>rfl
 have rs:subPV (pBy l) (pI 0) (pI 1) 1=some (pBy [l.getD 0 0]):=by
  have:=Zpp l 0 1 (by omega) h1
  simpa [e1] using this
 obtain ⟨b,hb⟩:∃ b,b=l.getD 0 0:=⟨_,rfl⟩
 have hb8:=b.toNat_lt
 rw [<- hb] at rs
 have g1:FN 1 [pBy [b]]=some [pI (b.toNat:Int)]:=Zap fNb ⟨[b],by simp,rfl,by simp [num]⟩
 have v1:IntKind.i64.wrap (1+(b.toNat:Int))=((b.toNat+1:Nat):Int):=by rw [wrapI _ (by omega) (by omega)];omega
 by_cases h2:b.toNat+1<=l.length
 ·have hm:mayT l=true:=by unfold mayT;rw [<- hb,decide_eq_true h1,decide_eq_true h2];rfl
  rw [hm,if_pos rfl,<- hb]
  obtain ⟨m,hm0⟩:∃ m:Nat,m=b.toNat+1:=⟨_,rfl⟩
  rw [<- hm0] at v1 h2 ⊢
  have d2:¬ ((l.length:Int) < (m:Int)):=by omega
  have rs2:subPV (pBy l) (pI 0) (pI (m:Int)) 1=some (pBy (l.take m)):=by
   have:=Zpp l 0 m (by omega) h2
   simpa using this
  have hlm:(l.take m).length=m:=by rw [List.length_take];omega
  have rl2:=r_len (l.take m)
  rw [hlm] at rl2
  have rs3:subPV (pBy (l.take m)) (pI 1) (pI (m:Int)) 1=some (pBy ((l.drop 1).take b.toNat)):=by
   have:=Zpp (l.take m) 1 m (by omega) (by omega)
   rw [List.drop_take,show m - 1=b.toNat by omega,List.take_take,Nat.min_self] at this
   exact this
  have rt:=r_toStr ((l.drop 1).take b.toNat)
  have htx:txL l=⟨((l.drop 1).take b.toNat).toArray⟩:=by rw [txL,<- hb]
  have hsz:(txL l).size=b.toNat:=by
   rw [htx]
   show (((l.drop 1).take b.toNat).toArray).size=_
   rw [List.size_toArray,List.length_take,List.length_drop]
   omega
  rw [<- htx] at rt
  generalize txL l=s at *
  have v2:IntKind.i64.wrap (1+(s.size:Int))=(m:Int):=by rw [hsz,wrapI _ (by omega) (by omega)];omega
  generalize (l.drop 1).take b.toNat=y at *
  generalize l.take m=ym at *
  refine ⟨_,_,_,_,_,_,Zar tabN,x0,fun w FP=>?_,?_⟩
  ·simp [Zab,Zaa,Base.ev,SX.ev,evs,Value.oneCell',g1,qq1,binPV,Zbc,rl,d1,d2,rs,rs2,rs3,rl2,rt,v1,v2,rm,rm1]
   all_goals omega
  ·simp [evs,SX.ev,g1,binPV,Zbc,rs,rs2,rs3,rl2,rt,v1,v2,rm,rm1]
 ·have hm:mayT l=false:=by unfold mayT;rw [<- hb,decide_eq_false h2,Bool.and_false]
  rw [hm,if_neg (by simp)]
  have d2:(l.length:Int) < ((b.toNat+1:Nat):Int):=by omega
  obtain ⟨m,hm0⟩:∃ m:Nat,m=b.toNat+1:=⟨_,rfl⟩
  rw [<- hm0] at v1 d2
  refine ⟨_,_,_,_,_,_,Zar tabN,x2,fun w FP=>?_,?_⟩
  ·simp [Zab,Zaa,Base.ev,SX.ev,evs,Value.oneCell',g1,qq1,binPV,rl,d1,d2,rs,v1,rm]
   all_goals omega
  ·simp [evs,SX.ev]

end Go.Proofs.YtpnegheknjeljaaGreat.bip
