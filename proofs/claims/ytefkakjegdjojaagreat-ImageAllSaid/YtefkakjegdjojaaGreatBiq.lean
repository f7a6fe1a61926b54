/- Texts joined. -/
import Derived.Test.YtefkakjegdjojaaGreatBym
import Derived.Test.YtefkakjegdjojaaGreatCmp
section
/- Numbers and texts as bytes (package bits), put: told. -/
namespace Go.Proofs.YtefkakjegdjojaaGreat.bip
open Go Go.RowKit eng SX Fact fil ima symD
set_option linter.unusedVariables false
set_option linter.unusedSimpArgs false
set_option maxRecDepth 1000000

def isApp:Op->Bool | .call { callee:=.builtin .append,.. }=>true | .makeSlice ..=>true | _=>false
def hApp (_:FuncId) (o:Oper):Option Hint:=cond (isApp o.op) (some .own) none
def ELow (k:Nat):FnE:={ k:=k,ins:=[none,none],leaks:=[false,false],outs:=[none],kinds:=[.own 5 1 true] }
noncomputable def flL:=flat (Zar Tryz.prog 184)
noncomputable def lpL:=flat (Zak (nth flL 5))
def shL0:Shape:=⟨[(0,.leaf),(1,.leaf)],[],[none,none],33,184⟩
def shL1:Shape:=⟨[(0,.leaf),(1,.leaf),(5,.own 0 4 1),(16,.leaf),(17,.leaf)],[brow 4],[none,none,none,none],33,184⟩
def shLN:Shape:=⟨[(4,.nil)],[],[],33,184⟩
def shLR:Shape:=⟨[(4,.own 0 0 1)],[brow 0],[],33,184⟩
@[simp] def Zpx:SX:=.op (Op.binOp .shr 3 (Operand.tmp 25) (Operand.tmp 27) 3) 3 [25,27] [.var 0,.bin .mul (.con (.int .i64 8)) (.var 3)]
@[simp] def Zlq:SX:=.bin .sub (.bin .sub (.var 1) (.con (.int .i64 1))) (.var 3)
@[simp] def Zjo:SX:=.bin .lss (.var 1) (.con (.int .i64 1))
@[simp] def Zlp:SX:=rop (ROp.rep [.int .u8 0]) [.var 1]
@[simp] def Zpw:SX:=.bin .gtr (.var 1) (.con (.int .i64 8))
@[simp] def Zsu:SX:=.bin .add (.var 3) (.con (.int .i64 1))
theorem ln1:segTo Tryz.prog fil.noOrc 10000 flL shL0 [1] shLN [] hApp=some (.ret,[.ok Zjo,.is Zjo (.bool true)],[]):=by kernel_rfl
theorem ln2:segTo Tryz.prog fil.noOrc 10000 flL shL0 [0,1] shLN [] hApp=some (.ret,[.ok Zjo,.is Zjo (.bool false),.ok Zpw,.is Zpw (.bool true)],[]):=by kernel_rfl
theorem lpre:segTo Tryz.prog fil.noOrc 10000 (flL.take 5) shL0 [0,0] shL1 [(0,0)] hApp=some (.normal,[.ok Zjo,.is Zjo (.bool false),.ok Zpw,.is Zpw (.bool false),same (.var 1) (.var 1),upto (.var 1) 4294967296,.ok (.var 0),.ok (.var 1),.ok (.len Zlp),.ok (.con (.int .i64 0)),same (.len Zlp) (.len Zlp)],[.var 0,.var 1,.len Zlp,.con (.int .i64 0),Zlp]):=by kernel_rfl
theorem lx:segTo Tryz.prog fil.noOrc 10000 lpL shL1 [0] shL1 [(0,0)] hApp=some (.exit 0,[.ok (.bin .lss (.var 3) (.var 2)),.is (.bin .lss (.var 3) (.var 2)) (.bool false),.ok (.var 0),.ok (.var 1),.ok (.var 2),.ok (.var 3),same (.len (.var 4)) (.len (.var 4))],[.var 0,.var 1,.var 2,.var 3,.var 4]):=by kernel_rfl
theorem lo:segTo Tryz.prog fil.noOrc 10000 lpL shL1 [1] shL1 [(0,0)] hApp=some (.normal,[.ok (.bin .lss (.var 3) (.var 2)),.is (.bin .lss (.var 3) (.var 2)) (.bool true),.ok (.bin .sub (.var 1) (.con (.int .i64 1))),.ok Zlq,.ok (.bin .mul (.con (.int .i64 8)) (.var 3)),.ok Zpx,.ok (.conv .u8 Zpx),rng Zlq (.len (.var 4)),.idx (.var 4) Zlq 1 1,.ok Zsu,.ok (.var 0),.ok (.var 1),.ok (.var 2),.ok Zsu,same (.len (.var 4)) (.len (rop (ROp.upd 1 0) [.var 4,Zlq,.conv .u8 Zpx]))],[.var 0,.var 1,.var 2,Zsu,rop (ROp.upd 1 0) [.var 4,Zlq,.conv .u8 Zpx]]):=by kernel_rfl
theorem lpost:segTo Tryz.prog fil.noOrc 10000 (flL.drop 6) shL1 [] shLR [(0,0)] hApp=some (.ret,[same (.len (.var 4)) (.len (.var 4))],[.var 4]):=by kernel_rfl

theorem op_shr (v k:Int) (t t':TypeId) (a b:Nat) (hab:Nat.beq a b=false) (h0:0<=k) (h1:k < 64):opVal Tryz.prog (Op.binOp .shr t (Operand.tmp a) (Operand.tmp b) t) t' [a,b] [.int .i64 v,.int .i64 k]=some (.int .i64 (v / 2 ^ k.toNat)):=by
 have hb:Nat.beq b b=true:=Nat.beq_refl b
 have ha:Nat.beq a a=true:=Nat.beq_refl a
 have h2:min k.toNat 64=k.toNat:=by omega
 have h3:(0:Int)<=2 ^ k.toNat:=Int.pow_nonneg (by omega)
 simp only [opVal,Op.isSelect,cond_false,execOp,envR,lookT,ha,hab,hb,cond_true,eqGuard,binOp]
 simp [Zn4,Zkx,Zgt,Zt7,Op.shift,Int.not_lt.2 h0,IntKind.bits,h2,Int.fdiv_eq_ediv_of_nonneg _ h3]
def encY:Enc UInt8:={ sz:=1,enc:=fun b=>[.int .u8 b.toNat],len:=fun _=>rfl,one:=fun _ u hu=>by simp at hu;subst hu;rfl,pos:=by decide }
theorem Zs1 (l:List UInt8):pBy l=pRow encY l:=by
 have:∀ l:List UInt8,encY.all l=l.map fun b=>Value.int .u8 b.toNat:=fun l=>by
  induction l with
  | nil=>rfl
  | cons b l ih=>rw [Enc.all_cons,ih];rfl
 simp [pBy,pRow,this]
theorem Zit {a b:List UInt8} (h:pBy a=pBy b):a=b:=by
 simp only [pBy,PV.row.injEq] at h
 apply List.ext_getElem h.1
 intro i h1 h2
 have:=congrArg (fun l=>l[i]?) h.2
 simp only [List.getElem?_map,List.getElem?_eq_getElem h1,List.getElem?_eq_getElem h2,Option.map_some,Option.some.injEq,PV.v.injEq,Value.int.injEq,true_and] at this
 exact UInt8.toNat_inj.1 (by omega)
theorem r_updY (l:List UInt8) (i:Nat) (k:IntKind) (b:UInt8) (z:Int) (hz:z=(b.toNat:Int)) (h:i < l.length):ropPV (.upd 1 0) [pBy l,.v (.int k (i:Int)),.v (.int .u8 z)]=some (pBy (l.set i b)):=by
 subst hz
 rw [Zs1,Zs1]
 exact Zw8 encY l i k b h
theorem idxP_by (l:List UInt8) (j sub:Nat) (k:IntKind) (h:j < l.length) (hs:sub<=1):IdxP (some (pBy l)) (some (.v (.int k (j:Int)))) 1 sub:=by
 rw [Zs1]
 exact Zaq encY l j 1 sub k rfl h hs
theorem Zon (l:List UInt8) (hl:l.length<=1000000000):Zyd (some (pBy l)) 1:=by
 rw [Zs1]
 exact Zqe encY l 1 rfl hl
def lowB (v n:Int):List UInt8:=if 1<=n/\n<=8 then low v n.toNat else []
def stepB (v:Int) (n i:Nat):List UInt8:=List.replicate (n - i) 0++low v i
theorem stepB_set (v:Int) {n i:Nat} (h:i < n):(stepB v n i).set (n - 1 - i) (byt v i)=stepB v n (i+1):=by
 unfold stepB
 rw [show n - i=(n - 1 - i)+1 by omega,show n - (i+1)=n - 1 - i by omega,List.replicate_succ',List.append_assoc,List.set_append_right _ _ (by simp)]
 simp [low]
theorem u8_byt (v:Int) (i:Nat):IntKind.u8.wrap (v / 2 ^ (8 * i))=((byt v i).toNat:Int):=by
 rw [byt_nat,show (2:Int) ^ (8 * i)=256 ^ i by rw [Int.pow_mul];rfl]
 exact IntKind.wrap_u8 _
def RLow (ps qs:List PV):Prop:=∃ v n:Int,ps=[pI v,pI n]/\qs=[pBy (lowB v n)]
theorem fLow:∀ ps q1 q2,RLow ps q1->RLow ps q2->q1=q2:=by
 rintro ps q1 q2 ⟨v,n,rfl,rfl⟩ ⟨v',n',h,rfl⟩
 simp only [List.cons.injEq,PV.v.injEq,Value.int.injEq,true_and,and_true] at h
 rw [h.1,h.2]
@[simp] theorem kLow (k:Nat):(ELow k).k=k:=rfl
theorem toldLow (k:Nat):ToldF 184 (ELow k) (spec RLow):=by
 refine Zpz (fun _ _=>none) _ (Zar Tryz.prog 184) Tryz.func184 (by kernel_rfl) shL0 (by kernel_rfl) ?_ ?_
 ·intro ps qs h
  obtain ⟨v,n,rfl,rfl⟩:=Zaj h
  exact Zbd rfl
 ·intro C ps qs hF h a w hsh
  obtain ⟨v,n,rfl,rfl⟩:=Zaj h
  show wpL Tryz.prog flL _ a w
  by_cases h1:n < 1
  ·have hn:lowB v n=[]:=by rw [lowB,if_neg (by omega)]
   rw [hn,<- List.append_nil flL]
   refine Zag Zad Zac fil.noOrc_ok ln1 hsh ?_ (fun qs a1 w1 hq hx=>⟨nofun,fun _=>⟨.inr rfl,shLN,_,[SX.lit 0 []],[],hx,by kernel_rfl,rfl,by simp⟩⟩)
   simp [Zab,Zaa,Base.ev,SX.ev,evs,Value.oneCell',binPV,h1]
  by_cases h8:8 < n
  ·have hn:lowB v n=[]:=by rw [lowB,if_neg (by omega)]
   rw [hn,<- List.append_nil flL]
   refine Zag Zad Zac fil.noOrc_ok ln2 hsh ?_ (fun qs a1 w1 hq hx=>⟨nofun,fun _=>⟨.inr rfl,shLN,_,[SX.lit 0 []],[],hx,by kernel_rfl,rfl,by simp⟩⟩)
   simp [Zab,Zaa,Base.ev,SX.ev,evs,Value.oneCell',binPV,h1,h8]
  obtain ⟨m,rfl⟩:∃ m:Nat,n=(m:Int):=⟨n.toNat,by omega⟩
  have hm1:1<=m:=by omega
  have hm8:m<=8:=by omega
  rw [<- List.take_append_drop 5 flL]
  have rr:ropPV (.rep [.int .u8 0]) [pI (m:Int)]=some (pBy (stepB v m 0)):=by
   rw [r_rep _ (by omega)]
   simp [stepB,low]
  have rl:lenPV (pBy (stepB v m 0))=some (pI (m:Int)):=by rw [r_len];simp [stepB,low]
  refine Zag Zad Zac fil.noOrc_ok lpre hsh ?_ (fun qs a1 w1 hq hx=>⟨fun _=>?_,fun h=>absurd rfl h⟩)
  ·simp [Zab,Zaa,Base.ev,SX.ev,evs,Value.oneCell',binPV,h1,h8,rr,rl]
   all_goals omega
  simp [evs,SX.ev,rr,rl] at hq
  subst hq
  show wpL Tryz.prog (.block _ (.loop _) :: flL.drop 6) _ a1 w1
  refine Zau (fun k a w=>∃ i:Nat,k=m - i/\i<=m/\Zah C shL1 [pI v,pI (m:Int),pI (m:Int),pI (i:Int),pBy (stepB v m i)] a w) ?_ (n:=m) ⟨0,by omega,by omega,hx⟩
  rintro k a w ⟨i,rfl,hi,hx⟩
  have hsl:(stepB v m i).length=m:=by simp [stepB];omega
  have rl1:lenPV (pBy (stepB v m i))=some (pI (m:Int)):=by rw [r_len,hsl]
  rw [<- List.append_nil (flat _)]
  by_cases hlt:i < m
  ·have g1:IntKind.i64.wrap ((m:Int) - 1)=(m:Int) - 1:=wrapI _ (by omega) (by omega)
   have g2:IntKind.i64.wrap ((m:Int) - 1 - (i:Int))=((m - 1 - i:Nat):Int):=by rw [wrapI _ (by omega) (by omega)];omega
   have g3:IntKind.i64.wrap (8 * (i:Int))=8 * (i:Int):=wrapI _ (by omega) (by omega)
   have g4:IntKind.i64.wrap ((i:Int)+1)=(i:Int)+1:=wrapI _ (by omega) (by omega)
   have os:=op_shr v (8 * (i:Int)) 3 3 25 27 rfl (by omega) (by omega)
   rw [show (8 * (i:Int)).toNat=8 * i by omega] at os
   have u:=u8_byt v i
   have ru:=r_updY (stepB v m i) (m - 1 - i) .i64 (byt v i) _ rfl (by omega)
   rw [stepB_set v hlt] at ru
   have ix:=idxP_by (stepB v m i) (m - 1 - i) 1 .i64 (by omega) (by omega)
   have hsl2:(stepB v m (i+1)).length=m:=by simp [stepB];omega
   have rl2:lenPV (pBy (stepB v m (i+1)))=some (pI (m:Int)):=by rw [r_len,hsl2]
   refine Zag Zad Zac fil.noOrc_ok lo hx ?_ (fun qs a1 wd hq hx=>⟨fun _=>.inl ⟨rfl,m - (i+1),by omega,i+1,rfl,by omega,?_⟩,fun h=>absurd rfl h⟩)
   ·simp [Zab,Zaa,Base.ev,SX.ev,evs,Value.oneCell',binPV,Zdn,Ze8,PV.plain,g1,g2,g3,g4,os,u,ru,ix,rl1,rl2,hlt]
    all_goals omega
   ·simp [evs,SX.ev,binPV,Zdn,Ze8,PV.plain,g1,g2,g3,g4,os,u,ru] at hq
    subst hq
    exact hx
  ·obtain rfl:i=m:=by omega
   refine Zag Zad Zac fil.noOrc_ok lx hx ?_ (fun qs a1 wd hq hx=>⟨nofun,fun _=>.inr (.inl ⟨rfl,?_⟩)⟩)
   ·simp [Zab,Zaa,Base.ev,SX.ev,evs,Value.oneCell',binPV,rl1,Zfa]
   simp [evs,SX.ev] at hq
   subst hq
   rw [<- List.append_nil (flL.drop 6)]
   have hlow:lowB v (i:Int)=stepB v i i:=by rw [lowB,if_pos (by omega)];simp [stepB]
   refine Zag Zad Zac fil.noOrc_ok lpost hx ?_ (fun qs a1 wd hq hx=>⟨nofun,fun _=>⟨.inr rfl,shLR,_,[SX.var 0],[0],hx,by kernel_rfl,?_,?_⟩⟩)
   ·simp [Zab,Zaa,Base.ev,SX.ev,evs,Value.oneCell',rl1]
   ·simp [evs,SX.ev] at hq
    subst hq
    rw [hlow]
    rfl
   ·intro j hj
    simp at hj
    subst hj
    refine ⟨i - 1,(stepB v i i).map fun b=>PV.v (.int .u8 b.toNat),?_⟩
    rw [hlow]
    simp only [List.getElem?_cons_zero,pBy,hsl,Option.some.injEq,PV.row.injEq,and_true]
    omega

end Go.Proofs.YtefkakjegdjojaaGreat.bip
end
section
/- Numbers and texts as bytes (package bits), put: told, second part. -/
namespace Go.Proofs.YtefkakjegdjojaaGreat.bip
open Go Go.RowKit eng SX Fact fil ima symD
set_option linter.unusedVariables false
set_option linter.unusedSimpArgs false
set_option maxRecDepth 1000000

def EPuB (k:Nat):FnE:={ k:=k,ins:=[none,none,none],leaks:=[false,false,false],outs:=[none],kinds:=[.own 5 1 true] }
def ETxB (k:Nat):FnE:={ k:=k,ins:=[none,none],leaks:=[false,false],outs:=[none],kinds:=[.own 5 1 true] }
def EMsB (k:Nat):FnE:={ k:=k,ins:=[none],leaks:=[false],outs:=[none],kinds:=[.own 5 1 true] }
def tabB (f:FuncId):Option FnE:=cond (Nat.beq f 184) (some (ELow 1)) (cond (Nat.beq f 185) (some (EMsB 2)) none)
def bitsN:Nat->Nat->List Nat
 | 0,_=>[]
 | n+1,k=>k % 2 :: bitsN n (k / 2)
noncomputable def flPu:=flat (Zar Tryz.prog 168)
noncomputable def flMs:=flat (Zar Tryz.prog 185)
noncomputable def flTx:=flat (Zar Tryz.prog 169)
def shPu:Shape:=⟨[(0,.leaf),(1,.leaf),(2,.leaf)],[],[some false,none,none],13,168⟩
def shPuR:Shape:=⟨[(6,.own 0 0 1)],[brow 0],[],13,168⟩
def shMs:Shape:=⟨[(0,.leaf)],[],[none],12,185⟩
def shMsR:Shape:=⟨[(2,.own 0 0 1)],[brow 0],[],12,185⟩
def shTx:Shape:=⟨[(0,.leaf),(1,.leaf)],[],[some false,none],10,169⟩
def shTxR:Shape:=⟨[(4,.own 0 0 1)],[brow 0],[],10,169⟩
@[simp] def Zlo:SX:=.bin .add (.con (.int .i64 0)) (.len (.var 0))
@[simp] def Zst:SX:=.bin .add Zlo (.len (.fn 1 [.var 1,.var 2] 0))
@[simp] def Zss:SX:=.bin .add Zlo (.len (.fn 2 [.var 1] 0))
@[simp] def Zgn:SX:=rop ROp.cat [.lit 0 [],.var 0]
@[simp] def Zb3:SX:=.con (.int .i64 0)
@[simp] def Zpv:SX:=rop ROp.cat [.lit 1 [.conv .u8 (.slen (.var 0))],rop ROp.ofStr [.var 0]]
@[simp] def Zpu:SX:=rop ROp.cat [Zgn,.fn 1 [.var 1,.var 2] 0]
@[simp] def Zjn:SX:=.bin .sub Zst Zb3
@[simp] def Zjm:SX:=.bin .sub Zss Zb3
@[simp] def Znn:SX:=rop ROp.cat [Zgn,.fn 2 [.var 1] 0]
@[simp] def Znm:SX:=.bin .lss Zlo Zb3
@[simp] def Znl:SX:=.bin .lss Zst Zb3
@[simp] def Znk:SX:=.bin .lss Zss Zb3
theorem ms:segTo Tryz.prog fil.noOrc 10000 flMs shMs [0] shMsR [(0,2)] hApp=some (.ret,[.ok (.slen (.var 0)),.ok (.bin .gtr (.slen (.var 0)) (.con (.int .i64 255))),.is (.bin .gtr (.slen (.var 0)) (.con (.int .i64 255))) (.bool false),.ok (.slen (.var 0)),.ok (.conv .u8 (.slen (.var 0))),.ok (.slen (.var 0)),same (.len (.lit 1 [.conv .u8 (.slen (.var 0))])) (.len (.lit 1 [.conv .u8 (.slen (.var 0))])),upto (.len Zpv) 4294967296,same (.len Zpv) (.len Zpv)],[Zpv]):=by kernel_rfl
theorem pu:segTo Tryz.prog (orcFn tabB) 10000 flPu shPu [1,0,0,0,1,1] shPuR [(3,3)] hApp=some (.ret,[.fn 184 (ELow 1) [.var 1,.var 2],rng Zb3 (.len (.fn 1 [.var 1,.var 2] 0)),.ok (.len (.var 0)),.ok Zlo,.ok Znm,.is Znm (.bool false),.ok Zst,.ok Znl,.is Znl (.bool false),.ok Znl,.is Znl (.bool false),.ok Zjn,.ok (.bin .gtr Zjn Zb3),.is (.bin .gtr Zjn Zb3) (.bool true),upto Zjn 4294967296,rng Zb3 (.len (rop (ROp.rep [.int .u8 0]) [Zjn])),upto (.len (rop (ROp.rep [.int .u8 0]) [Zjn])) 4294967296,cells (.var 0) 1,same Zb3 (.len (.lit 0 [])),upto (.len Zgn) 4294967296,same (.len (.fn 1 [.var 1,.var 2] 0)) (.len (.fn 1 [.var 1,.var 2] 0)),same (.len Zgn) (.len Zgn),upto (.len Zpu) 4294967296,same (.len Zpu) (.len Zpu)],[Zpu]):=by kernel_rfl
theorem tx:segTo Tryz.prog (orcFn tabB) 10000 flTx shTx [1,0,0,0,1,1] shTxR [(3,3)] hApp=some (.ret,[.fn 185 (EMsB 2) [.var 1],rng Zb3 (.len (.fn 2 [.var 1] 0)),.ok (.len (.var 0)),.ok Zlo,.ok Znm,.is Znm (.bool false),.ok Zss,.ok Znk,.is Znk (.bool false),.ok Znk,.is Znk (.bool false),.ok Zjm,.ok (.bin .gtr Zjm Zb3),.is (.bin .gtr Zjm Zb3) (.bool true),upto Zjm 4294967296,rng Zb3 (.len (rop (ROp.rep [.int .u8 0]) [Zjm])),upto (.len (rop (ROp.rep [.int .u8 0]) [Zjm])) 4294967296,cells (.var 0) 1,same Zb3 (.len (.lit 0 [])),upto (.len Zgn) 4294967296,same (.len (.fn 2 [.var 1] 0)) (.len (.fn 2 [.var 1] 0)),same (.len Zgn) (.len Zgn),upto (.len Znn) 4294967296,same (.len Znn) (.len Znn)],[Znn]):=by kernel_rfl

@[simp] theorem kMsB (k:Nat):(EMsB k).k=k:=rfl
@[simp] theorem kPuB (k:Nat):(EPuB k).k=k:=rfl
@[simp] theorem kTxB (k:Nat):(ETxB k).k=k:=rfl
theorem Zt6 (l:List UInt8):ropPV .cat [.row 0 [],pBy l]=some (pBy l):=by simp [ropPV,pBy]
theorem r_cat1Y (b:UInt8) (z:Int) (hz:z=(b.toNat:Int)) (l:List UInt8):ropPV .cat [.row 1 [.v (.int .u8 z)],pBy l]=some (pBy (b :: l)):=by
 subst hz
 have:=r_cat [b] l
 simpa [pBy] using this
theorem u8_size (s:ByteArray) (h:s.size<=255):IntKind.u8.wrap (s.size:Int)=((UInt8.ofNat s.size).toNat:Int):=by
 rw [IntKind.wrap_u8,UInt8.toNat_ofNat']
 omega
theorem Znv {l:List UInt8} (h:1<=l.length):∃ n cs,some (pBy l)=some (PV.row (n+1) cs):=by
 refine ⟨l.length - 1,l.map fun b=>.v (.int .u8 b.toNat),?_⟩
 simp only [pBy,Option.some.injEq,PV.row.injEq,and_true]
 omega
def msB (s:ByteArray):List UInt8:=UInt8.ofNat s.size :: s.data.toList
@[simp] theorem Zia (s:ByteArray):(msB s).length=s.size+1:=by simp [msB]
def RMsB (ps qs:List PV):Prop:=∃ s:ByteArray,s.size<=255/\ps=[pS s]/\qs=[pBy (msB s)]
theorem fMsB:∀ ps q1 q2,RMsB ps q1->RMsB ps q2->q1=q2:=by
 rintro ps q1 q2 ⟨s,_,rfl,rfl⟩ ⟨s',_,h,rfl⟩
 simp only [List.cons.injEq,PV.v.injEq,Value.string.injEq,and_true] at h
 rw [h]
theorem toldMsB (k:Nat):ToldF 185 (EMsB k) (spec RMsB):=by
 refine Zpz (fun _ _=>none) _ (Zar Tryz.prog 185) Tryz.func185 (by kernel_rfl) shMs (by kernel_rfl) ?_ ?_
 ·intro ps qs h
  obtain ⟨s,_,rfl,rfl⟩:=Zaj h
  exact Zbd rfl
 ·intro C ps qs hF h a w hsh
  obtain ⟨s,hs,rfl,rfl⟩:=Zaj h
  show wpL Tryz.prog flMs _ a w
  rw [<- List.append_nil flMs]
  have u:=u8_size s hs
  obtain ⟨b,hb⟩:∃ b,b=UInt8.ofNat s.size:=⟨_,rfl⟩
  have rc:ropPV .cat [.row 1 [.v (.int .u8 (b.toNat:Int))],pBy s.data.toList]=some (pBy (msB s)):=by rw [r_cat1Y _ _ rfl _,hb];rfl
  rw [<- hb] at u
  have ro:=Znt s
  obtain ⟨q,hq0⟩:∃ q:Nat,q=s.size+1:=⟨_,rfl⟩
  have rl:lenPV (pBy (msB s))=some (pI (q:Int)):=by rw [r_len,Zia,hq0]
  have hd:¬ (255:Int) < (s.size:Int):=by omega
  refine Zag Zad Zac fil.noOrc_ok ms hsh ?_ (fun qs a1 wd hq hx=>⟨nofun,fun _=>⟨.inr rfl,shMsR,_,[SX.var 0],[0],hx,by kernel_rfl,?_,?_⟩⟩)
  ·simp [Zab,Zaa,Base.ev,SX.ev,evs,Value.oneCell',binPV,Zdn,Za6,u,rc,ro,rl,hd,Zfa]
   all_goals omega
  ·simp [evs,SX.ev,Zdn,Za6,u,ro,rc] at hq
   subst hq
   rfl
  ·intro j hj
   simp at hj
   subst hj
   exact Znv (by simp)
noncomputable def FB:Fns:=fun k=>match k with | 1=>spec RLow | 2=>spec RMsB | _=>fun _=>none
theorem pp1:ToldF 184 (ELow 1) (FB 1):=toldLow 1
theorem pp2:ToldF 185 (EMsB 2) (FB 2):=toldMsB 2
def RPuB (ps qs:List PV):Prop:=∃ (l:List UInt8) (v n:Int),l.length<=1000000/\1<=n/\n<=8/\ps=[pBy l,pI v,pI n]/\qs=[pBy (l++low v n.toNat)]
theorem fPuB:∀ ps q1 q2,RPuB ps q1->RPuB ps q2->q1=q2:=by
 rintro ps q1 q2 ⟨l,v,n,_,_,_,rfl,rfl⟩ ⟨l',v',n',_,_,_,h,rfl⟩
 simp only [List.cons.injEq,PV.v.injEq,Value.int.injEq,true_and,and_true] at h
 rw [Zit h.1,h.2.1,h.2.2]
theorem toldPuB (k:Nat):ToldF 168 (EPuB k) (spec RPuB):=by
 refine Zpz FB _ (Zar Tryz.prog 168) Tryz.func168 (by kernel_rfl) shPu (by kernel_rfl) ?_ ?_
 ·intro ps qs h
  obtain ⟨l,v,n,_,_,_,rfl,rfl⟩:=Zaj h
  exact Zbd rfl
 ·intro C ps qs hF h a w hsh
  obtain ⟨l,v,n,hl,h1,h8,rfl,rfl⟩:=Zaj h
  show wpL Tryz.prog flPu _ a w
  rw [<- List.append_nil flPu]
  obtain ⟨m,rfl⟩:∃ m:Nat,n=(m:Int):=⟨n.toNat,by omega⟩
  have g1:FB 1 [pI v,pI (m:Int)]=some [pBy (low v m)]:=Zal fLow ⟨v,m,rfl,by rw [lowB,if_pos ⟨h1,h8⟩];rfl⟩
  have hll:(low v m).length=m:=Zfm v m
  show wpL Tryz.prog (flPu++[]) (fun e a' w'=>_) a w
  simp only [Int.toNat_natCast]
  generalize low v m=y at *
  have rl:=r_len l
  have rly:=r_len y
  rw [hll] at rly
  have v1:IntKind.i64.wrap (l.length:Int)=(l.length:Int):=wrapI _ (by omega) (by omega)
  have v2:IntKind.i64.wrap ((l.length:Int)+(m:Int))=((l.length+m:Nat):Int):=by rw [wrapI _ (by omega) (by omega)];omega
  have v3:IntKind.i64.wrap ((l.length+m:Nat):Int)=((l.length+m:Nat):Int):=wrapI _ (by omega) (by omega)
  have d1:¬ ((l.length:Int) < 0):=by omega
  have d2:¬ (((l.length+m:Nat):Int) < 0):=by omega
  have d3:(0:Int) < ((l.length+m:Nat):Int):=by omega
  have c0:=Zt6 l
  have c1:=r_cat l y
  have rlc:lenPV (pBy (l++y))=some (pI ((l.length+m:Nat):Int)):=by rw [r_len,List.length_append,hll]
  have cb:=Zon l (by omega)
  have hne:1<=(l++y).length:=by rw [List.length_append];omega
  generalize l++y=z at *
  generalize hT:l.length+m=T at *
  obtain ⟨rp,hrp⟩:∃ rp,rp=List.replicate T (0:UInt8):=⟨_,rfl⟩
  have rr:ropPV (.rep [.int .u8 0]) [pI (T:Int)]=some (pBy rp):=by rw [r_rep _ (by omega),hrp,Int.toNat_natCast]
  have rlr:lenPV (pBy rp)=some (pI (T:Int)):=by rw [r_len,hrp,List.length_replicate]
  clear hrp
  refine Zag Zad Zac (Zai tabB) pu hsh ?_ (fun qs a1 wd hq hx=>⟨nofun,fun _=>⟨.inr rfl,shPuR,_,[SX.var 0],[0],hx,by kernel_rfl,?_,?_⟩⟩)
  ·simp [Zab,Zaa,Base.ev,SX.ev,evs,Value.oneCell',hF,g1,pp1,binPV,rl,rly,v1,v2,v3,d1,d2,d3,rr,rlr,c0,c1,rlc,cb,Zfa]
   all_goals omega
  ·simp [evs,SX.ev,hF,g1,c0,c1] at hq
   subst hq
   rfl
  ·intro j hj
   simp at hj
   subst hj
   exact Znv hne
def RTxB (ps qs:List PV):Prop:=∃ (l:List UInt8) (s:ByteArray),l.length<=1000000/\s.size<=255/\ps=[pBy l,pS s]/\qs=[pBy (l++msB s)]
theorem fTxB:∀ ps q1 q2,RTxB ps q1->RTxB ps q2->q1=q2:=by
 rintro ps q1 q2 ⟨l,s,_,_,rfl,rfl⟩ ⟨l',s',_,_,h,rfl⟩
 simp only [List.cons.injEq,PV.v.injEq,Value.string.injEq,true_and,and_true] at h
 rw [Zit h.1,h.2]
theorem toldTxB (k:Nat):ToldF 169 (ETxB k) (spec RTxB):=by
 refine Zpz FB _ (Zar Tryz.prog 169) Tryz.func169 (by kernel_rfl) shTx (by kernel_rfl) ?_ ?_
 ·intro ps qs h
  obtain ⟨l,s,_,_,rfl,rfl⟩:=Zaj h
  exact Zbd rfl
 ·intro C ps qs hF h a w hsh
  obtain ⟨l,s,hl,hs,rfl,rfl⟩:=Zaj h
  show wpL Tryz.prog flTx _ a w
  rw [<- List.append_nil flTx]
  obtain ⟨m,hm⟩:∃ m:Nat,m=s.size+1:=⟨_,rfl⟩
  have g1:FB 2 [pS s]=some [pBy (msB s)]:=Zal fMsB ⟨s,hs,rfl,rfl⟩
  have hll:(msB s).length=m:=by rw [Zia,hm]
  have hm1:1<=m:=by omega
  have hm8:m<=256:=by omega
  clear hm
  generalize msB s=y at *
  have rl:=r_len l
  have rly:=r_len y
  rw [hll] at rly
  have v1:IntKind.i64.wrap (l.length:Int)=(l.length:Int):=wrapI _ (by omega) (by omega)
  have v2:IntKind.i64.wrap ((l.length:Int)+(m:Int))=((l.length+m:Nat):Int):=by rw [wrapI _ (by omega) (by omega)];omega
  have v3:IntKind.i64.wrap ((l.length+m:Nat):Int)=((l.length+m:Nat):Int):=wrapI _ (by omega) (by omega)
  have d1:¬ ((l.length:Int) < 0):=by omega
  have d2:¬ (((l.length+m:Nat):Int) < 0):=by omega
  have d3:(0:Int) < ((l.length+m:Nat):Int):=by omega
  have c0:=Zt6 l
  have c1:=r_cat l y
  have rlc:lenPV (pBy (l++y))=some (pI ((l.length+m:Nat):Int)):=by rw [r_len,List.length_append,hll]
  have cb:=Zon l (by omega)
  have hne:1<=(l++y).length:=by rw [List.length_append];omega
  generalize l++y=z at *
  generalize hT:l.length+m=T at *
  obtain ⟨rp,hrp⟩:∃ rp,rp=List.replicate T (0:UInt8):=⟨_,rfl⟩
  have rr:ropPV (.rep [.int .u8 0]) [pI (T:Int)]=some (pBy rp):=by rw [r_rep _ (by omega),hrp,Int.toNat_natCast]
  have rlr:lenPV (pBy rp)=some (pI (T:Int)):=by rw [r_len,hrp,List.length_replicate]
  clear hrp
  refine Zag Zad Zac (Zai tabB) tx hsh ?_ (fun qs a1 wd hq hx=>⟨nofun,fun _=>⟨.inr rfl,shTxR,_,[SX.var 0],[0],hx,by kernel_rfl,?_,?_⟩⟩)
  ·simp [Zab,Zaa,Base.ev,SX.ev,evs,Value.oneCell',hF,g1,pp2,binPV,rl,rly,v1,v2,v3,d1,d2,d3,rr,rlr,c0,c1,rlc,cb,Zfa]
   all_goals omega
  ·simp [evs,SX.ev,hF,g1,c0,c1] at hq
   subst hq
   rfl
  ·intro j hj
   simp at hj
   subst hj
   exact Znv hne

end Go.Proofs.YtefkakjegdjojaaGreat.bip
end
