/- Numbers and texts as bytes, the document's: told. -/
import Derived.Test.YtefkakjegdjojaaGreatBiq
import Derived.Test.YtefkakjegdjojaaGreatBir
namespace Go.Proofs.YtefkakjegdjojaaGreat.rbt
open Go Go.RowKit eng SX Fact fil ima symD
open bip hiding isApp hApp bitsN
set_option linter.unusedVariables false
set_option linter.unusedSimpArgs false
set_option maxRecDepth 1000000

def isApp:Op->Bool | .call { callee:=.builtin .append,.. }=>true | .makeSlice ..=>true | _=>false
def hApp (_:FuncId) (o:Oper):Option Hint:=cond (isApp o.op) (some .own) none
def bitsN:Nat->Nat->List Nat
 | 0,_=>[]
 | n+1,k=>k % 2 :: bitsN n (k / 2)
noncomputable def flU:=flat (Zar Tryz.prog 54)
noncomputable def lpU:=flat (Zak (nth flU 5))
noncomputable def flX:=flat (Zar Tryz.prog 55)
noncomputable def flK:=flat (Zar Tryz.prog 68)
noncomputable def lpK:=flat (Zak (nth flK 5))
def shU0:Shape:=⟨[(0,.leaf),(1,.leaf),(2,.leaf)],[],[some false,none,none],34,54⟩
def shU1:Shape:=⟨[(1,.leaf),(7,.own 0 2 1),(8,.leaf)],[brow 2],[none,none],34,54⟩
def shUR:Shape:=⟨[(6,.own 0 0 1)],[brow 0],[],34,54⟩
def shX0:Shape:=⟨[(0,.leaf),(1,.leaf)],[],[some false,none],21,55⟩
def shXR:Shape:=⟨[(4,.own 0 0 1)],[brow 0],[],21,55⟩
def shK0:Shape:=⟨[(0,.leaf),(1,.leaf)],[],[some false,none],34,68⟩
def shK1:Shape:=⟨[(0,.leaf),(1,.leaf),(6,.leaf),(7,.leaf)],[],[some false,none,none,none],34,68⟩
def shKR:Shape:=⟨[(4,.leaf),(5,.leaf)],[],[none,none],34,68⟩
@[simp] def Zsd:SX:=.op (Op.binOp .shr 3 (Operand.tmp 26) (Operand.tmp 28) 3) 3 [26,28] [.var 0,.bin .mul (.con (.int .i64 8)) (.var 1)]
@[simp] def Zo4:SX:=rop ROp.cat [rop ROp.cat [.lit 0 [],.var 0],.lit 1 [.conv .u8 (.slen (.var 1))]]
@[simp] def Zsc:SX:=.bin .add (.bin .mul (.var 2) (.con (.int .i64 256))) (.conv .i64 (.cell (.var 0) (.var 3) 1 0))
@[simp] def Zi3:SX:=.len (rop ROp.cat [.lit 0 [],.var 0])
@[simp] def Zo3:SX:=rop ROp.cat [.var 2,.lit 1 [.conv .u8 Zsd]]
@[simp] def Zo2:SX:=rop ROp.cat [Zo4,rop ROp.ofStr [.var 1]]
@[simp] def Zb0:SX:=.con (.int .i64 1)
@[simp] def Zo1:SX:=.bin .geq (.var 1) (.con (.int .i64 0))
@[simp] def Zo0:SX:=.bin .gtr (.var 1) (.con (.int .i64 7))
@[simp] def Zmo:SX:=.bin .lss (.len (.var 0)) (.var 1)
theorem upre:segTo Tryz.prog fil.noOrc 10000 (flU.take 5) shU0 [0,0] shU1 [(1,2)] hApp=some (.normal,[cells (.var 0) 1,same (.len (.lit 0 [])) (.len (.lit 0 [])),upto Zi3 4294967296,.ok (.bin .lss (.var 2) Zb0),.is (.bin .lss (.var 2) Zb0) (.bool false),.ok (.bin .gtr (.var 2) (.con (.int .i64 8))),.is (.bin .gtr (.var 2) (.con (.int .i64 8))) (.bool false),.ok (.bin .sub (.var 2) Zb0),.ok (.var 1),.ok (.bin .sub (.var 2) Zb0),same Zi3 Zi3],[.var 1,.bin .sub (.var 2) Zb0,rop ROp.cat [.lit 0 [],.var 0]]):=by kernel_rfl
theorem ux:segTo Tryz.prog fil.noOrc 10000 lpU shU1 [0] shU1 [(0,0)] hApp=some (.exit 0,[.ok Zo1,.is Zo1 (.bool false),.ok (.var 0),.ok (.var 1),same (.len (.var 2)) (.len (.var 2))],[.var 0,.var 1,.var 2]):=by kernel_rfl
theorem uo:segTo Tryz.prog fil.noOrc 10000 lpU shU1 [1] shU1 [(0,1)] hApp=some (.normal,[.ok Zo1,.is Zo1 (.bool true),.ok (.bin .mul (.con (.int .i64 8)) (.var 1)),.ok Zsd,.ok (.conv .u8 Zsd),same (.len (.var 2)) (.len (.var 2)),upto (.len Zo3) 4294967296,.ok (.bin .sub (.var 1) Zb0),.ok (.var 0),.ok (.bin .sub (.var 1) Zb0),same (.len Zo3) (.len Zo3)],[.var 0,.bin .sub (.var 1) Zb0,Zo3]):=by kernel_rfl
theorem upost:segTo Tryz.prog fil.noOrc 10000 (flU.drop 6) shU1 [] shUR [(0,0)] hApp=some (.ret,[same (.len (.var 2)) (.len (.var 2))],[.var 2]):=by kernel_rfl
theorem xt:segTo Tryz.prog fil.noOrc 10000 flX shX0 [0] shXR [(1,4)] hApp=some (.ret,[cells (.var 0) 1,same (.len (.lit 0 [])) (.len (.lit 0 [])),upto Zi3 4294967296,.ok (.slen (.var 1)),.ok (.bin .gtr (.slen (.var 1)) (.con (.int .i64 255))),.is (.bin .gtr (.slen (.var 1)) (.con (.int .i64 255))) (.bool false),.ok (.slen (.var 1)),.ok (.conv .u8 (.slen (.var 1))),same Zi3 Zi3,upto (.len Zo4) 4294967296,.ok (.slen (.var 1)),same (.len Zo4) (.len Zo4),upto (.len Zo2) 4294967296,same (.len Zo2) (.len Zo2)],[Zo2]):=by kernel_rfl
theorem kn:segTo Tryz.prog fil.noOrc 10000 flK shK0 [0,0,1,1] shKR [] hApp=some (.ret,[.ok (.bin .lss (.var 1) Zb0),.is (.bin .lss (.var 1) Zb0) (.bool false),.ok Zo0,.is Zo0 (.bool false),.ok (.len (.var 0)),.ok Zmo,.is Zmo (.bool true),.ok (.con (.int .i64 0)),.ok (.con (.bool false))],[.con (.int .i64 0),.con (.bool false)]):=by kernel_rfl
theorem kpre:segTo Tryz.prog fil.noOrc 10000 (flK.take 5) shK0 [0,0,0,0] shK1 [] hApp=some (.normal,[.ok (.bin .lss (.var 1) Zb0),.is (.bin .lss (.var 1) Zb0) (.bool false),.ok Zo0,.is Zo0 (.bool false),.ok (.len (.var 0)),.ok Zmo,.is Zmo (.bool false),.ok (.var 1),.ok (.con (.int .i64 0)),.ok (.con (.int .i64 0))],[.var 0,.var 1,.con (.int .i64 0),.con (.int .i64 0)]):=by kernel_rfl
theorem kx:segTo Tryz.prog fil.noOrc 10000 lpK shK1 [0] shK1 [] hApp=some (.exit 0,[.ok (.bin .lss (.var 3) (.var 1)),.is (.bin .lss (.var 3) (.var 1)) (.bool false),.ok (.var 1),.ok (.var 2),.ok (.var 3)],[.var 0,.var 1,.var 2,.var 3]):=by kernel_rfl
theorem ko:segTo Tryz.prog fil.noOrc 10000 lpK shK1 [1] shK1 [] hApp=some (.normal,[.ok (.bin .lss (.var 3) (.var 1)),.is (.bin .lss (.var 3) (.var 1)) (.bool true),.ok (.bin .mul (.var 2) (.con (.int .i64 256))),.idx (.var 0) (.var 3) 1 1,.idx (.var 0) (.var 3) 1 1,.ok (.cell (.var 0) (.var 3) 1 0),.ok (.conv .i64 (.cell (.var 0) (.var 3) 1 0)),.ok Zsc,.ok (.bin .add (.var 3) Zb0),.ok (.var 1),.ok Zsc,.ok (.bin .add (.var 3) Zb0)],[.var 0,.var 1,Zsc,.bin .add (.var 3) Zb0]):=by kernel_rfl
theorem kpost:segTo Tryz.prog fil.noOrc 10000 (flK.drop 6) shK1 [] shKR [] hApp=some (.ret,[.ok (.var 2),.ok (.con (.bool true))],[.var 2,.con (.bool true)]):=by kernel_rfl

theorem low_get (v:Int):∀ (n j:Nat) (h:j < n),(low v n)[j]?=some (byt v (n - 1 - j))
 | n+1,0,_=>by simp [low]
 | n+1,j+1,h=>by
  simp only [low,List.getElem?_cons_succ]
  rw [low_get v n j (by omega)]
  congr 2
  omega
theorem low_take (v:Int) {n j:Nat} (h:j < n):(low v n).take (j+1)=(low v n).take j++[byt v (n - 1 - j)]:=by
 rw [List.take_add_one,low_get v n j h]
 rfl
theorem Zwq (l:List UInt8) (b:UInt8) (z:Int) (hz:z=(b.toNat:Int)):ropPV .cat [pBy l,.row 1 [.v (.int .u8 z)]]=some (pBy (l++[b])):=by
 subst hz
 exact r_cat l [b]
theorem cutU:flU=flU.take 5++.block (Zao (nth flU 5)) (.loop (Zak (nth flU 5))) :: flU.drop 6:=by kernel_rfl
theorem toldPuR (k:Nat):ToldF 54 (EPuB k) (spec RPuB):=by
 refine Zpz (fun _ _=>none) _ (Zar Tryz.prog 54) Tryz.func54 (by kernel_rfl) shU0 (by kernel_rfl) ?_ ?_
 ·intro ps qs h
  obtain ⟨l,v,n,_,_,_,rfl,rfl⟩:=Zaj h
  exact Zbd rfl
 ·intro C ps qs hF h a w hsh
  obtain ⟨l,v,n,hl,h1,h8,rfl,rfl⟩:=Zaj h
  show wpL Tryz.prog flU _ a w
  rw [cutU]
  obtain ⟨m,rfl⟩:∃ m:Nat,n=(m:Int):=⟨n.toNat,by omega⟩
  simp only [Int.toNat_natCast]
  have hm1:1<=m:=by omega
  have hm8:m<=8:=by omega
  have d1:¬ ((m:Int) < 1):=by omega
  have d8:¬ ((8:Int) < (m:Int)):=by omega
  have g1:IntKind.i64.wrap ((m:Int) - 1)=(m:Int) - 1:=wrapI _ (by omega) (by omega)
  have c0:=Zt6 l
  have rl:=r_len l
  have cb:=Zon l (by omega)
  refine Zag Zad Zac fil.noOrc_ok upre hsh ?_ (fun qs a1 w1 hq hx=>⟨fun _=>?_,fun h=>absurd rfl h⟩)
  ·simp [Zab,Zaa,Base.ev,SX.ev,evs,Value.oneCell',binPV,d1,d8,g1,c0,rl,cb,Zfa]
   all_goals omega
  simp [evs,SX.ev,binPV,g1,c0] at hq
  subst hq
  show wpL Tryz.prog (.block _ (.loop _) :: flU.drop 6) _ a1 w1
  refine Zau (fun k a w=>∃ j:Nat,k=m - j/\j<=m/\Zah C shU1 [pI v,pI ((m:Int) - 1 - (j:Int)),pBy (l++(low v m).take j)] a w) ?_ (n:=m) ⟨0,by omega,by omega,by simpa using hx⟩
  rintro k a w ⟨j,rfl,hj,hx⟩
  have hsl:(l++(low v m).take j).length=l.length+j:=by simp;omega
  have rl1:lenPV (pBy (l++(low v m).take j))=some (pI ((l.length+j:Nat):Int)):=by rw [r_len,hsl]
  rw [<- List.append_nil (flat _)]
  by_cases hlt:j < m
  ·have hd:(0:Int)<=(m:Int) - 1 - (j:Int):=by omega
   have g2:IntKind.i64.wrap (8 * ((m:Int) - 1 - (j:Int)))=8 * ((m:Int) - 1 - (j:Int)):=wrapI _ (by omega) (by omega)
   have g4:IntKind.i64.wrap ((m:Int) - 1 - (j:Int) - 1)=(m:Int) - 1 - ((j+1:Nat):Int):=by rw [wrapI _ (by omega) (by omega)];omega
   have os:=op_shr v (8 * ((m:Int) - 1 - (j:Int))) 3 3 26 28 rfl (by omega) (by omega)
   rw [show (8 * ((m:Int) - 1 - (j:Int))).toNat=8 * (m - 1 - j) by omega] at os
   have u:=u8_byt v (m - 1 - j)
   have ru:=Zwq (l++(low v m).take j) (byt v (m - 1 - j)) _ rfl
   rw [List.append_assoc,<- low_take v hlt] at ru
   have hsl2:(l++(low v m).take (j+1)).length=l.length+(j+1):=by simp;omega
   have rl2:lenPV (pBy (l++(low v m).take (j+1)))=some (pI ((l.length+(j+1):Nat):Int)):=by rw [r_len,hsl2]
   generalize hq1:(m:Int) - 1 - (j:Int)=q1 at *
   generalize hq2:(m:Int) - 1 - ((j+1:Nat):Int)=q2 at *
   generalize hL2:l++(low v m).take (j+1)=L2 at *
   generalize l++(low v m).take j=L1 at *
   generalize hT1:l.length+j=T1 at *
   generalize hT2:l.length+(j+1)=T2 at *
   refine Zag Zad Zac fil.noOrc_ok uo hx ?_ (fun qs a1 wd hq hx=>⟨fun _=>.inl ⟨rfl,m - (j+1),by omega,j+1,rfl,by omega,?_⟩,fun h=>absurd rfl h⟩)
   ·simp [Zab,Zaa,Base.ev,SX.ev,evs,Value.oneCell',binPV,Zdn,Ze8,PV.plain,g2,g4,os,u,ru,rl1,rl2,hd]
    all_goals omega
   ·simp [evs,SX.ev,binPV,Zdn,Ze8,PV.plain,g2,g4,os,u,ru] at hq
    subst hq
    rw [hq2,hL2]
    exact hx
  ·obtain rfl:j=m:=by omega
   have hd:¬ ((0:Int)<=(j:Int) - 1 - (j:Int)):=by omega
   generalize hq1:(j:Int) - 1 - (j:Int)=q1 at *
   have ht:(low v j).take j=low v j:=List.take_of_length_le (by simp)
   rw [ht] at hx rl1
   have hlw:(low v j).length=j:=by simp
   generalize low v j=y at *
   generalize hT1:l.length+j=T1 at *
   refine Zag Zad Zac fil.noOrc_ok ux hx ?_ (fun qs a1 wd hq hx=>⟨nofun,fun _=>.inr (.inl ⟨rfl,?_⟩)⟩)
   ·simp [Zab,Zaa,Base.ev,SX.ev,evs,Value.oneCell',binPV,rl1,Zfa,hd]
   simp [evs,SX.ev] at hq
   subst hq
   rw [<- List.append_nil (flU.drop 6)]
   refine Zag Zad Zac fil.noOrc_ok upost hx ?_ (fun qs a1 wd hq hx=>⟨nofun,fun _=>⟨.inr rfl,shUR,_,[SX.var 0],[0],hx,by kernel_rfl,?_,?_⟩⟩)
   ·simp [Zab,Zaa,Base.ev,SX.ev,evs,Value.oneCell',rl1]
   ·simp [evs,SX.ev] at hq
    subst hq
    rfl
   ·intro i hi
    simp at hi
    subst hi
    exact Znv (by rw [List.length_append];omega)
theorem toldTxR (k:Nat):ToldF 55 (ETxB k) (spec RTxB):=by
 refine Zpz (fun _ _=>none) _ (Zar Tryz.prog 55) Tryz.func55 (by kernel_rfl) shX0 (by kernel_rfl) ?_ ?_
 ·intro ps qs h
  obtain ⟨l,s,_,_,rfl,rfl⟩:=Zaj h
  exact Zbd rfl
 ·intro C ps qs hF h a w hsh
  obtain ⟨l,s,hl,hs,rfl,rfl⟩:=Zaj h
  show wpL Tryz.prog flX _ a w
  rw [<- List.append_nil flX]
  have u:=u8_size s hs
  have c0:=Zt6 l
  have rl:=r_len l
  have cb:=Zon l (by omega)
  obtain ⟨b,hb⟩:∃ b,b=UInt8.ofNat s.size:=⟨_,rfl⟩
  rw [<- hb] at u
  have c1:=Zwq l b _ rfl
  have rl1:lenPV (pBy (l++[b]))=some (pI ((l.length+1:Nat):Int)):=by rw [r_len];simp
  have ro:=Znt s
  have c2:=r_cat (l++[b]) s.data.toList
  have e2:(l++[b])++s.data.toList=l++msB s:=by rw [hb];simp [msB]
  rw [e2] at c2
  clear hb
  have rl2:lenPV (pBy (l++msB s))=some (pI ((l.length+(s.size+1):Nat):Int)):=by rw [r_len];simp
  have hd:¬ (255:Int) < (s.size:Int):=by omega
  generalize l++[b]=L1 at *
  have hne:1<=(l++msB s).length:=by simp;omega
  generalize l++msB s=L2 at *
  generalize hT2:l.length+(s.size+1)=T2 at *
  generalize hT1:l.length+1=T1 at *
  refine Zag Zad Zac fil.noOrc_ok xt hsh ?_ (fun qs a1 wd hq hx=>⟨nofun,fun _=>⟨.inr rfl,shXR,_,[SX.var 0],[0],hx,by kernel_rfl,?_,?_⟩⟩)
  ·simp [Zab,Zaa,Base.ev,SX.ev,evs,Value.oneCell',binPV,Zdn,Za6,u,c0,c1,c2,ro,rl,rl1,rl2,cb,hd,Zfa]
   all_goals omega
  ·simp [evs,SX.ev,Zdn,Za6,u,c0,c1,c2,ro] at hq
   subst hq
   rfl
  ·intro i hi
   simp at hi
   subst hi
   exact Znv hne

theorem cutK:flK=flK.take 5++.block (Zao (nth flK 5)) (.loop (Zak (nth flK 5))) :: flK.drop 6:=by kernel_rfl
theorem toldTkR (k:Nat):ToldF 68 (ETkB k) (spec RTkB):=by
 refine Zek (fun _ _=>none) _ (Zar Tryz.prog 68) Tryz.func68 (by kernel_rfl) shK0 (by kernel_rfl) ?_ ?_
 ·intro ps qs h
  obtain ⟨l,n,_,_,_,rfl,_⟩:=Zaj h
  exact Zbd rfl
 ·intro C ps qs hF h a w hsh
  obtain ⟨l,n,hl,h1,h7,rfl,hqs⟩:=Zaj h
  show wpL Tryz.prog flK _ a w
  have d1:¬ ((n:Int) < 1):=by omega
  have d8:¬ ((7:Int) < (n:Int)):=by omega
  have rl:=r_len l
  by_cases hnl:n<=l.length
  ·rw [if_pos hnl] at hqs
   subst hqs
   have d2:¬ ((l.length:Int) < (n:Int)):=by omega
   rw [cutK]
   refine Zag Zad Zac fil.noOrc_ok kpre hsh ?_ (fun qs a1 w1 hq hx=>⟨fun _=>?_,fun h=>absurd rfl h⟩)
   ·simp [Zab,Zaa,Base.ev,SX.ev,evs,Value.oneCell',binPV,d1,d8,d2,rl]
   simp [evs,SX.ev] at hq
   subst hq
   show wpL Tryz.prog (.block _ (.loop _) :: flK.drop 6) _ a1 w1
   refine Zau (fun m a w=>∃ i:Nat,m=n - i/\i<=n/\Zah C shK1 [pBy l,pI (n:Int),pI (num (l.take i)),pI (i:Int)] a w) ?_ (n:=n) ⟨0,by omega,by omega,by simpa [num] using hx⟩
   rintro m a w ⟨i,rfl,hi,hx⟩
   rw [<- List.append_nil (flat _)]
   by_cases hlt:i < n
   ·have v4:IntKind.i64.wrap ((i:Int)+1)=(i:Int)+1:=wrapI _ (by omega) (by omega)
    have cy:=cellY l i (by omega)
    have ix:=idxP_by l i 1 .i64 (by omega) (by omega)
    have n0:=num_nonneg (l.take i)
    have n1:=num_lt (l.take i)
    have hn1:num (l.take i) < 281474976710656:=by
     have:(256:Int) ^ (l.take i).length<=256 ^ 6:=by
      have h6:(l.take i).length<=6:=by rw [List.length_take];omega
      exact_mod_cast Nat.pow_le_pow_right (n:=256) (by omega) h6
     omega
    have hb:=l[i].toNat_lt
    have wm:IntKind.i64.wrap (num (l.take i) * 256)=num (l.take i) * 256:=wrapI _ (by omega) (by omega)
    have wu:IntKind.i64.wrap (l[i].toNat:Int)=(l[i].toNat:Int):=wrapI _ (by omega) (by omega)
    have ws:IntKind.i64.wrap (num (l.take i) * 256+(l[i].toNat:Int))=num (l.take (i+1)):=by rw [wrapI _ (by omega) (by omega),num_take (by omega)]
    refine Zag Zad Zac fil.noOrc_ok ko hx ?_ (fun qs a1 wd hq hx=>⟨fun _=>.inl ⟨rfl,n - (i+1),by omega,i+1,rfl,by omega,?_⟩,fun h=>absurd rfl h⟩)
    ·simp [Zab,Zaa,Base.ev,SX.ev,evs,Value.oneCell',binPV,Zdn,v4,cy,ix,wm,wu,ws,hlt]
    ·simp [evs,SX.ev,binPV,Zdn,v4,cy,wm,wu,ws] at hq
     subst hq
     exact hx
   ·obtain rfl:i=n:=by omega
    refine Zag Zad Zac fil.noOrc_ok kx hx ?_ (fun qs a1 wd hq hx=>⟨nofun,fun _=>.inr (.inl ⟨rfl,?_⟩)⟩)
    ·simp [Zab,Zaa,Base.ev,SX.ev,evs,Value.oneCell',binPV]
    simp [evs,SX.ev] at hq
    subst hq
    rw [<- List.append_nil (flK.drop 6)]
    refine Zag Zad Zac fil.noOrc_ok kpost hx ?_ (fun qs a1 wd hq hx=>⟨nofun,fun _=>⟨.inr rfl,shKR,_,[SX.var 0,SX.var 1],hx,by kernel_rfl,?_⟩⟩)
    ·simp [Base.ev,SX.ev,evs,Value.oneCell']
    ·simp [evs,SX.ev] at hq
     subst hq
     rfl
  ·rw [if_neg hnl] at hqs
   subst hqs
   have d2:(l.length:Int) < (n:Int):=by omega
   rw [<- List.append_nil flK]
   refine Zag Zad Zac fil.noOrc_ok kn hsh ?_ (fun qs a1 w1 hq hx=>⟨nofun,fun _=>⟨.inr rfl,shKR,_,[SX.var 0,SX.var 1],hx,by kernel_rfl,?_⟩⟩)
   ·simp [Zab,Zaa,Base.ev,SX.ev,evs,Value.oneCell',binPV,d1,d8,d2,rl]
   ·simp [evs,SX.ev] at hq
    subst hq
    rfl

end Go.Proofs.YtefkakjegdjojaaGreat.rbt
