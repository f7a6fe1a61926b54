/- Numbers and texts as bytes (package bits), put: told. -/
import Derived.Test.YtpnegheknjeljaaGreatBym
import Derived.Test.YtpnegheknjeljaaGreatSymD
namespace Go.Proofs.YtpnegheknjeljaaGreat.bip
open Go Go.RowKit eng SX Fact fil ima symD
set_option linter.unusedVariables false
set_option linter.unusedSimpArgs false
set_option maxRecDepth 1000000

def isApp:Op->Bool | .call { callee:=.builtin .append,.. }=>true | .makeSlice ..=>true | _=>false
def hApp (_:FuncId) (o:Oper):Option Hint:=cond (isApp o.op) (some .own) none
def ELow (k:Nat):FnE:={ k:=k,ins:=[none,none],leaks:=[false,false],outs:=[none],kinds:=[.own 5 1 true] }
noncomputable def flL:=flat (Zat Tryz.prog 179)
noncomputable def lpL:=flat (Zaq (nth flL 5))
def shL0:Shape:=⟨[(0,.leaf),(1,.leaf)],[],[none,none],33,179⟩
def shL1:Shape:=⟨[(0,.leaf),(1,.leaf),(5,.own 0 4 1),(16,.leaf),(17,.leaf)],[brow 4],[none,none,none,none],33,179⟩
def shLN:Shape:=⟨[(4,.nil)],[],[],33,179⟩
def shLR:Shape:=⟨[(4,.own 0 0 1)],[brow 0],[],33,179⟩
@[simp] def Zjr:SX:=.op (Op.binOp .shr 3 (Operand.tmp 25) (Operand.tmp 27) 3) 3 [25,27] [.var 0,.bin .mul (.con (.int .i64 8)) (.var 3)]
@[simp] def Zgz:SX:=.bin .sub (.bin .sub (.var 1) (.con (.int .i64 1))) (.var 3)
@[simp] def Zfb:SX:=.bin .lss (.var 1) (.con (.int .i64 1))
@[simp] def Zgy:SX:=rop (ROp.rep [.int .u8 0]) [.var 1]
@[simp] def Zjq:SX:=.bin .gtr (.var 1) (.con (.int .i64 8))
@[simp] def Zl5:SX:=.bin .add (.var 3) (.con (.int .i64 1))
theorem ln1:segTo Tryz.prog fil.noOrc 10000 flL shL0 [1] shLN [] hApp=some (.ret,[.ok Zfb,.is Zfb (.bool true)],[]):=by kernel_rfl
theorem ln2:segTo Tryz.prog fil.noOrc 10000 flL shL0 [0,1] shLN [] hApp=some (.ret,[.ok Zfb,.is Zfb (.bool false),.ok Zjq,.is Zjq (.bool true)],[]):=by kernel_rfl
theorem lpre:segTo Tryz.prog fil.noOrc 10000 (flL.take 5) shL0 [0,0] shL1 [(0,0)] hApp=some (.normal,[.ok Zfb,.is Zfb (.bool false),.ok Zjq,.is Zjq (.bool false),same (.var 1) (.var 1),upto (.var 1) 4294967296,.ok (.var 0),.ok (.var 1),.ok (.len Zgy),.ok (.con (.int .i64 0)),same (.len Zgy) (.len Zgy)],[.var 0,.var 1,.len Zgy,.con (.int .i64 0),Zgy]):=by kernel_rfl
theorem lx:segTo Tryz.prog fil.noOrc 10000 lpL shL1 [0] shL1 [(0,0)] hApp=some (.exit 0,[.ok (.bin .lss (.var 3) (.var 2)),.is (.bin .lss (.var 3) (.var 2)) (.bool false),.ok (.var 0),.ok (.var 1),.ok (.var 2),.ok (.var 3),same (.len (.var 4)) (.len (.var 4))],[.var 0,.var 1,.var 2,.var 3,.var 4]):=by kernel_rfl
theorem lo:segTo Tryz.prog fil.noOrc 10000 lpL shL1 [1] shL1 [(0,0)] hApp=some (.normal,[.ok (.bin .lss (.var 3) (.var 2)),.is (.bin .lss (.var 3) (.var 2)) (.bool true),.ok (.bin .sub (.var 1) (.con (.int .i64 1))),.ok Zgz,.ok (.bin .mul (.con (.int .i64 8)) (.var 3)),.ok Zjr,.ok (.conv .u8 Zjr),rng Zgz (.len (.var 4)),.idx (.var 4) Zgz 1 1,.ok Zl5,.ok (.var 0),.ok (.var 1),.ok (.var 2),.ok Zl5,same (.len (.var 4)) (.len (rop (ROp.upd 1 0) [.var 4,Zgz,.conv .u8 Zjr]))],[.var 0,.var 1,.var 2,Zl5,rop (ROp.upd 1 0) [.var 4,Zgz,.conv .u8 Zjr]]):=by kernel_rfl
theorem lpost:segTo Tryz.prog fil.noOrc 10000 (flL.drop 6) shL1 [] shLR [(0,0)] hApp=some (.ret,[same (.len (.var 4)) (.len (.var 4))],[.var 4]):=by kernel_rfl

theorem op_shr (v k:Int) (t t':TypeId) (a b:Nat) (hab:Nat.beq a b=false) (h0:0<=k) (h1:k < 64):opVal Tryz.prog (Op.binOp .shr t (Operand.tmp a) (Operand.tmp b) t) t' [a,b] [.int .i64 v,.int .i64 k]=some (.int .i64 (v / 2 ^ k.toNat)):=by
 have hb:Nat.beq b b=true:=Nat.beq_refl b
 have ha:Nat.beq a a=true:=Nat.beq_refl a
 have h2:min k.toNat 64=k.toNat:=by omega
 have h3:(0:Int)<=2 ^ k.toNat:=Int.pow_nonneg (by omega)
 simp only [opVal,Op.isSelect,cond_false,execOp,envR,lookT,ha,hab,hb,cond_true,eqGuard,binOp]
 simp [Zre,Zrd,Zp8,Zqa,Op.shift,Int.not_lt.2 h0,IntKind.bits,h2,Int.fdiv_eq_ediv_of_nonneg _ h3]
def encY:Enc UInt8:={ sz:=1,enc:=fun b=>[.int .u8 b.toNat],len:=fun _=>rfl,one:=fun _ u hu=>by simp at hu;subst hu;rfl,pos:=by decide }
theorem Zma (l:List UInt8):pBy l=pRow encY l:=by
 have:∀ l:List UInt8,encY.all l=l.map fun b=>Value.int .u8 b.toNat:=fun l=>by
  induction l with
  | nil=>rfl
  | cons b l ih=>rw [Enc.all_cons,ih];rfl
 simp [pBy,pRow,this]
theorem Zgi {a b:List UInt8} (h:pBy a=pBy b):a=b:=by
 simp only [pBy,PV.row.injEq] at h
 apply List.ext_getElem h.1
 intro i h1 h2
 have:=congrArg (fun l=>l[i]?) h.2
 simp only [List.getElem?_map,List.getElem?_eq_getElem h1,List.getElem?_eq_getElem h2,Option.map_some,Option.some.injEq,PV.v.injEq,Value.int.injEq,true_and] at this
 exact UInt8.toNat_inj.1 (by omega)
theorem r_updY (l:List UInt8) (i:Nat) (k:IntKind) (b:UInt8) (z:Int) (hz:z=(b.toNat:Int)) (h:i < l.length):ropPV (.upd 1 0) [pBy l,.v (.int k (i:Int)),.v (.int .u8 z)]=some (pBy (l.set i b)):=by
 subst hz
 rw [Zma,Zma]
 exact Zrh encY l i k b h
theorem idxP_by (l:List UInt8) (j sub:Nat) (k:IntKind) (h:j < l.length) (hs:sub<=1):IdxP (some (pBy l)) (some (.v (.int k (j:Int)))) 1 sub:=by
 rw [Zma]
 exact Zbi encY l j 1 sub k rfl h hs
theorem cellsP_by (l:List UInt8) (hl:l.length<=1000000000):Zr9 (some (pBy l)) 1:=by
 rw [Zma]
 exact Zmg encY l 1 rfl hl
def lowB (v n:Int):List UInt8:=if 1<=n/\n<=8 then low v n.toNat else []
def stepB (v:Int) (n i:Nat):List UInt8:=List.replicate (n - i) 0++low v i
theorem stepB_set (v:Int) {n i:Nat} (h:i < n):(stepB v n i).set (n - 1 - i) (byt v i)=stepB v n (i+1):=by
 unfold stepB
 rw [show n - i=(n - 1 - i)+1 by omega,show n - (i+1)=n - 1 - i by omega,List.replicate_succ',List.append_assoc,List.set_append_right _ _ (by simp)]
 simp [low]
theorem u8_byt (v:Int) (i:Nat):IntKind.u8.wrap (v / 2 ^ (8 * i))=((byt v i).toNat:Int):=by
 rw [byt_nat,show (2:Int) ^ (8 * i)=256 ^ i by rw [Int.pow_mul];rfl]
 exact IntKind.wrap_u8 _
def RLow (ps qs:List PV):Prop:=∃ v n:Int,ps=[pI v,pI n]/\qs=[pBy (lowB v n)]
theorem fLow:∀ ps q1 q2,RLow ps q1->RLow ps q2->q1=q2:=by
 rintro ps q1 q2 ⟨v,n,rfl,rfl⟩ ⟨v',n',h,rfl⟩
 simp only [List.cons.injEq,PV.v.injEq,Value.int.injEq,true_and,and_true] at h
 rw [h.1,h.2]
@[simp] theorem kLow (k:Nat):(ELow k).k=k:=rfl
theorem toldLow (k:Nat):ToldF 179 (ELow k) (spec RLow):=by
 refine Zmx (fun _ _=>none) _ (Zat Tryz.prog 179) Tryz.func179 (by kernel_rfl) shL0 (by kernel_rfl) ?_ ?_
 ·intro ps qs h
  obtain ⟨v,n,rfl,rfl⟩:=Zah h
  exact Zc0 rfl
 ·intro C ps qs hF h a w hsh
  obtain ⟨v,n,rfl,rfl⟩:=Zah h
  show wpL Tryz.prog flL _ a w
  by_cases h1:n < 1
  ·have hn:lowB v n=[]:=by rw [lowB,if_neg (by omega)]
   rw [hn,<- List.append_nil flL]
   refine Zae names_ok mixed_ok fil.noOrc_ok ln1 hsh ?_ (fun qs a1 w1 hq hx=>⟨nofun,fun _=>⟨.inr rfl,shLN,_,[SX.lit 0 []],[],hx,by kernel_rfl,rfl,by simp⟩⟩)
   simp [Zab,Zaa,Base.ev,SX.ev,evs,Value.oneCell',binPV,h1]
  by_cases h8:8 < n
  ·have hn:lowB v n=[]:=by rw [lowB,if_neg (by omega)]
   rw [hn,<- List.append_nil flL]
   refine Zae names_ok mixed_ok fil.noOrc_ok ln2 hsh ?_ (fun qs a1 w1 hq hx=>⟨nofun,fun _=>⟨.inr rfl,shLN,_,[SX.lit 0 []],[],hx,by kernel_rfl,rfl,by simp⟩⟩)
   simp [Zab,Zaa,Base.ev,SX.ev,evs,Value.oneCell',binPV,h1,h8]
  obtain ⟨m,rfl⟩:∃ m:Nat,n=(m:Int):=⟨n.toNat,by omega⟩
  have hm1:1<=m:=by omega
  have hm8:m<=8:=by omega
  rw [<- List.take_append_drop 5 flL]
  have rr:ropPV (.rep [.int .u8 0]) [pI (m:Int)]=some (pBy (stepB v m 0)):=by
   rw [r_rep _ (by omega)]
   simp [stepB,low]
  have rl:lenPV (pBy (stepB v m 0))=some (pI (m:Int)):=by rw [r_len];simp [stepB,low]
  refine Zae names_ok mixed_ok fil.noOrc_ok lpre hsh ?_ (fun qs a1 w1 hq hx=>⟨fun _=>?_,fun h=>absurd rfl h⟩)
  ·simp [Zab,Zaa,Base.ev,SX.ev,evs,Value.oneCell',binPV,h1,h8,rr,rl]
   all_goals omega
  simp [evs,SX.ev,rr,rl] at hq
  subst hq
  show wpL Tryz.prog (.block _ (.loop _) :: flL.drop 6) _ a1 w1
  refine Zds (fun k a w=>∃ i:Nat,k=m - i/\i<=m/\Zam C shL1 [pI v,pI (m:Int),pI (m:Int),pI (i:Int),pBy (stepB v m i)] a w) ?_ (n:=m) ⟨0,by omega,by omega,hx⟩
  rintro k a w ⟨i,rfl,hi,hx⟩
  have hsl:(stepB v m i).length=m:=by simp [stepB];omega
  have rl1:lenPV (pBy (stepB v m i))=some (pI (m:Int)):=by rw [r_len,hsl]
  rw [<- List.append_nil (flat _)]
  by_cases hlt:i < m
  ·have g1:IntKind.i64.wrap ((m:Int) - 1)=(m:Int) - 1:=wrapI _ (by omega) (by omega)
   have g2:IntKind.i64.wrap ((m:Int) - 1 - (i:Int))=((m - 1 - i:Nat):Int):=by rw [wrapI _ (by omega) (by omega)];omega
   have g3:IntKind.i64.wrap (8 * (i:Int))=8 * (i:Int):=wrapI _ (by omega) (by omega)
   have g4:IntKind.i64.wrap ((i:Int)+1)=(i:Int)+1:=wrapI _ (by omega) (by omega)
   have os:=op_shr v (8 * (i:Int)) 3 3 25 27 rfl (by omega) (by omega)
   rw [show (8 * (i:Int)).toNat=8 * i by omega] at os
   have u:=u8_byt v i
   have ru:=r_updY (stepB v m i) (m - 1 - i) .i64 (byt v i) _ rfl (by omega)
   rw [stepB_set v hlt] at ru
   have ix:=idxP_by (stepB v m i) (m - 1 - i) 1 .i64 (by omega) (by omega)
   have hsl2:(stepB v m (i+1)).length=m:=by simp [stepB];omega
   have rl2:lenPV (pBy (stepB v m (i+1)))=some (pI (m:Int)):=by rw [r_len,hsl2]
   refine Zae names_ok mixed_ok fil.noOrc_ok lo hx ?_ (fun qs a1 wd hq hx=>⟨fun _=>.inl ⟨rfl,m - (i+1),by omega,i+1,rfl,by omega,?_⟩,fun h=>absurd rfl h⟩)
   ·simp [Zab,Zaa,Base.ev,SX.ev,evs,Value.oneCell',binPV,Zig,Zcb,PV.plain,g1,g2,g3,g4,os,u,ru,ix,rl1,rl2,hlt]
    all_goals omega
   ·simp [evs,SX.ev,binPV,Zig,Zcb,PV.plain,g1,g2,g3,g4,os,u,ru] at hq
    subst hq
    exact hx
  ·obtain rfl:i=m:=by omega
   refine Zae names_ok mixed_ok fil.noOrc_ok lx hx ?_ (fun qs a1 wd hq hx=>⟨nofun,fun _=>.inr (.inl ⟨rfl,?_⟩)⟩)
   ·simp [Zab,Zaa,Base.ev,SX.ev,evs,Value.oneCell',binPV,rl1,Zgk]
   simp [evs,SX.ev] at hq
   subst hq
   rw [<- List.append_nil (flL.drop 6)]
   have hlow:lowB v (i:Int)=stepB v i i:=by rw [lowB,if_pos (by omega)];simp [stepB]
   refine Zae names_ok mixed_ok fil.noOrc_ok lpost hx ?_ (fun qs a1 wd hq hx=>⟨nofun,fun _=>⟨.inr rfl,shLR,_,[SX.var 0],[0],hx,by kernel_rfl,?_,?_⟩⟩)
   ·simp [Zab,Zaa,Base.ev,SX.ev,evs,Value.oneCell',rl1]
   ·simp [evs,SX.ev] at hq
    subst hq
    rw [hlow]
    rfl
   ·intro j hj
    simp at hj
    subst hj
    refine ⟨i - 1,(stepB v i i).map fun b=>PV.v (.int .u8 b.toNat),?_⟩
    rw [hlow]
    simp only [List.getElem?_cons_zero,pBy,hsl,Option.some.injEq,PV.row.injEq,and_true]
    omega

end Go.Proofs.YtpnegheknjeljaaGreat.bip
