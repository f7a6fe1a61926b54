/- Texts joined. -/
import Derived.Test.YtefkakjegdjojaaGreatPck
import Derived.Test.YtefkakjegdjojaaGreatFrame
section
/- Texts joined. -/
section
/- What is Zej into files: what the laws of Zgr reckon with. -/
namespace Go.Proofs.YtefkakjegdjojaaGreat.fileFronts
open Go Go.RowKit eng SX Fact fil pck
set_option linter.unusedVariables false
set_option linter.unusedSimpArgs false
set_option maxRecDepth 1000000

def bs (l:List UInt8):ByteArray:=⟨l.toArray⟩
def EPut (k:Nat):FnE:={ k:=k,ins:=[none,some 2],leaks:=[false,false,false],outs:=[none],kinds:=[.num] }
def RPut (ps qs:List PV):Prop:=∃ (b:ByteArray) (o:Int) (s:ByteArray),b.size<=1000/\-9223372036854775808<=o/\o<=9223372036854775807/\s.size<=1000000/\ps=[pS b,pI o,pS s]/\qs=[pS (bs (putW b.data.toList (o,s)))]
theorem fPut:∀ ps q1 q2,RPut ps q1->RPut ps q2->q1=q2:=by
 rintro ps q1 q2 ⟨b,o,s,_,_,_,_,rfl,rfl⟩ ⟨b',o',s',_,_,_,_,h,rfl⟩
 simp only [List.cons.injEq,PV.v.injEq,Value.string.injEq,Value.int.injEq,true_and,and_true] at h
 obtain ⟨rfl,rfl,rfl⟩:=h
 rfl
@[simp] theorem kPut (k:Nat):(EPut k).k=k:=rfl
@[simp] theorem holds_fn (B:Base) (f:FuncId) (E:FnE) (es:List SX):(Fact.fn f E es).holds B ↔ ToldF f E (B.F E.k)/\∃ ps qs,evs B.s B.F es=some ps/\B.F E.k ps=some qs:=Iff.rfl
@[simp] theorem kAll (k:Nat):(EAll k).k=k:=rfl
@[simp] theorem kWs (k:Nat):(EWs k).k=k:=rfl
theorem bs_list (l:List UInt8):(bs l).data.toList=l:=by simp [bs]
theorem Zw1 (l:List UInt8):(bs l).size=l.length:=by simp [bs,ByteArray.size]
theorem tbl_size:∀ j,(tbl j).size<=14
 | 0=>by decide
 | 1=>by decide
 | 2=>by decide
 | 3=>by decide
 | 4=>by decide
 | 5=>by decide
 | _+6=>by show (⟨⟨[UInt8.ofNat 120]⟩⟩:ByteArray).size<=14;decide
theorem wseq_ok (l:List Nat):∀ c n,∀ w ∈ (wseq l c n).1,0<=w.1/\w.1 < 10/\w.2.size<=14
 | 0,n,w,h=>by simp [wseq] at h
 | c+1,n,w,h=>by
  simp only [wseq,List.mem_cons] at h
  rcases h with rfl | h
  ·have:=Zh9 (l:=l) (n:=n) (m:=10) (by omega)
   simp only [wr1]
   exact ⟨by omega,by omega,tbl_size _⟩
  ·exact wseq_ok l c _ w h

@[simp] theorem ex_cast0 (p:Nat->Prop):(∃ a:Nat,(0:Int)=(a:Int)/\p a) ↔ p 0:=by
 constructor
 ·rintro ⟨a,h,hp⟩
  have:a=0:=by omega
  rw [this] at hp
  exact hp
 ·exact fun h=>⟨0,rfl,h⟩
theorem cellW2 (ws:List (Int × ByteArray)) (i:Nat) (h:i < ws.length):Zb8 (pRow encW ws) (pI (i:Int)) 2 0=some (pI ws[i].1)/\Zb8 (pRow encW ws) (pI (i:Int)) 2 1=some (pS ws[i].2):=by
 constructor
 ·rw [cellW ws i h 0 (by omega)];rfl
 ·rw [cellW ws i h 1 (by omega)];rfl
@[simp] theorem Zae (B:Base) (e i:SX) (sz q:Nat):(Fact.idx e i sz q).holds B ↔ ∃ n cs k z,B.ev e=some (.row n cs)/\B.ev i=some (.v (.int k z))/\0<=z/\z < (n:Int)/\z.toNat * sz+q<=cs.length:=Iff.rfl
set_option maxHeartbeats 4000000 in
theorem encU_all:∀ zs:List Nat,encU.all zs=u8s zs
 | []=>rfl
 | z :: zs=>by
  rw [Enc.all_cons,encU_all zs]
  rfl
theorem rowU {w:World} {v:Value} {len:Nat} {Z:Nat->Int} (h:IsRow .u8 w v len Z):∃ l:List Nat,(∀ z ∈ l,z < 256)/\l.length<=9223372036854775807/\Reads w (pRow encU l) v:=by
 obtain ⟨zs,hzl,hz,hr⟩:=row_u8 h
 have hall:=encU_all zs
 obtain ⟨a,cap,rfl,h1,h2,h3⟩:=hr
 rw [u8s_length] at h1 h3
 have hm:=Zlv h2
 refine ⟨zs,hz,by omega,(reads_row encU).2 ⟨a,cap,by rw [u8s_length],h1,h2,fun h0=>?_⟩⟩
 obtain ⟨b,off,rfl,h4⟩:=h3 h0
 have hlt:0 < (u8s zs).length:=by rw [u8s_length];exact h0
 refine ⟨b,off,rfl,World.block_lt_of_cell? w ⟨b,off+0,none⟩ (h4 0 _ (List.getElem?_eq_getElem hlt)),fun i u hu=>?_⟩
 rw [hall] at hu
 exact h4 i u hu
end Go.Proofs.YtefkakjegdjojaaGreat.fileFronts
end
section
/- What the document's Zeo Zgr into a file: tenancyref7.PutWrite. -/
namespace Go.Proofs.YtefkakjegdjojaaGreat.rpw
open Go Go.RowKit eng SX Fact fil fileFronts
set_option linter.unusedVariables false
set_option linter.unusedSimpArgs false
set_option maxRecDepth 1000000

noncomputable def flP:=flat (Zar Tryz.prog 138)
def wvar:BoxT:=⟨135,0,false,[.leaf,.leaf],none,false⟩
def shP:Shape:=⟨[(0,.leaf),(1,.agg 2)],[],[none,none,none],42,138⟩
def shPR:Shape:=⟨[(4,.leaf)],[],[none],42,138⟩
def shPo:Shape:=⟨[(3,.ptr 0 0 0 0),(5,.own 1 3 1),(6,.leaf)],[wvar,brow 3],[none,none,none],42,138⟩
noncomputable def lpP:=flat (Zak (nth flP 5))
def plainB:Code->Code | .block _ b=>b | _=>.skip
noncomputable def inP:=flat (plainB (nth lpP 2))
noncomputable def lqP:=flat (Zak (nth inP 0))
theorem no1:segTo Tryz.prog fil.noOrc 10000 flP shP [0] shPR []=some (.ret,[.ok (.bin .geq (.var 1) (.con (.int .i64 0))),.is (.bin .geq (.var 1) (.con (.int .i64 0))) (.bool false),.ok (.var 0)],[.var 0]):=by kernel_rfl
theorem no2:segTo Tryz.prog fil.noOrc 10000 flP shP [1,0] shPR []=some (.ret,[.ok (.bin .geq (.var 1) (.con (.int .i64 0))),.is (.bin .geq (.var 1) (.con (.int .i64 0))) (.bool true),.ok (.bin .lss (.var 1) (.con (.int .i64 24))),.is (.bin .lss (.var 1) (.con (.int .i64 24))) (.bool false),.ok (.var 0)],[.var 0]):=by kernel_rfl
theorem no3:segTo Tryz.prog fil.noOrc 10000 flP shP [1,1,0] shPR []=some (.ret,[.ok (.bin .geq (.var 1) (.con (.int .i64 0))),.is (.bin .geq (.var 1) (.con (.int .i64 0))) (.bool true),.ok (.bin .lss (.var 1) (.con (.int .i64 24))),.is (.bin .lss (.var 1) (.con (.int .i64 24))) (.bool true),.ok (.slen (.var 2)),.ok (.bin .geq (.slen (.var 2)) (.con (.int .i64 1))),.is (.bin .geq (.slen (.var 2)) (.con (.int .i64 1))) (.bool false),.ok (.var 0)],[.var 0]):=by kernel_rfl
theorem no4:segTo Tryz.prog fil.noOrc 10000 flP shP [1,1,1,0] shPR []=some (.ret,[.ok (.bin .geq (.var 1) (.con (.int .i64 0))),.is (.bin .geq (.var 1) (.con (.int .i64 0))) (.bool true),.ok (.bin .lss (.var 1) (.con (.int .i64 24))),.is (.bin .lss (.var 1) (.con (.int .i64 24))) (.bool true),.ok (.slen (.var 2)),.ok (.bin .geq (.slen (.var 2)) (.con (.int .i64 1))),.is (.bin .geq (.slen (.var 2)) (.con (.int .i64 1))) (.bool true),.ok (.slen (.var 2)),.ok (.bin .sub (.con (.int .i64 24)) (.var 1)),.ok (.bin .leq (.slen (.var 2)) (.bin .sub (.con (.int .i64 24)) (.var 1))),.is (.bin .leq (.slen (.var 2)) (.bin .sub (.con (.int .i64 24)) (.var 1))) (.bool false),.ok (.var 0)],[.var 0]):=by kernel_rfl
theorem pre:segTo Tryz.prog fil.noOrc 10000 (flP.take 5) shP [1,1,1,1] shPo [(0,0),(2,0)]=some (.normal,[.ok (.bin .geq (.var 1) (.con (.int .i64 0))),.is (.bin .geq (.var 1) (.con (.int .i64 0))) (.bool true),.ok (.bin .lss (.var 1) (.con (.int .i64 24))),.is (.bin .lss (.var 1) (.con (.int .i64 24))) (.bool true),.ok (.slen (.var 2)),.ok (.bin .geq (.slen (.var 2)) (.con (.int .i64 1))),.is (.bin .geq (.slen (.var 2)) (.con (.int .i64 1))) (.bool true),.ok (.slen (.var 2)),.ok (.bin .sub (.con (.int .i64 24)) (.var 1)),.ok (.bin .leq (.slen (.var 2)) (.bin .sub (.con (.int .i64 24)) (.var 1))),.is (.bin .leq (.slen (.var 2)) (.bin .sub (.con (.int .i64 24)) (.var 1))) (.bool true),upto (.slen (.var 0)) 4294967296,.ok (.con (.int .i64 0)),.ok (.var 1),.ok (.var 2),same (.len (rop ROp.ofStr [.var 0])) (.len (rop ROp.ofStr [.var 0]))],[.con (.int .i64 0),.var 1,.var 2,rop ROp.ofStr [.var 0]]):=by kernel_rfl
theorem on:segTo Tryz.prog fil.noOrc 10000 (lpP.take 2) shPo [1] shPo [(0,0),(1,0)]=some (.normal,[.ok (.slen (.var 2)),.ok (.bin .lss (.var 0) (.slen (.var 2))),.is (.bin .lss (.var 0) (.slen (.var 2))) (.bool true),.ok (.var 0),.ok (.var 1),.ok (.var 2),same (.len (.var 3)) (.len (.var 3))],[.var 0,.var 1,.var 2,.var 3]):=by kernel_rfl
theorem ex:segTo Tryz.prog fil.noOrc 10000 (lpP.take 2) shPo [0] shPo [(0,0),(1,0)]=some (.exit 0,[.ok (.slen (.var 2)),.ok (.bin .lss (.var 0) (.slen (.var 2))),.is (.bin .lss (.var 0) (.slen (.var 2))) (.bool false),.ok (.var 0),.ok (.var 1),.ok (.var 2),same (.len (.var 3)) (.len (.var 3))],[.var 0,.var 1,.var 2,.var 3]):=by kernel_rfl
theorem app:segTo Tryz.prog fil.noOrc 10000 lqP shPo [1] shPo [(0,0),(1,1)]=some (.normal,[.ok (.bin .add (.var 1) (.var 0)),.ok (.bin .leq (.len (.var 3)) (.bin .add (.var 1) (.var 0))),.is (.bin .leq (.len (.var 3)) (.bin .add (.var 1) (.var 0))) (.bool true),same (.len (.var 3)) (.len (.var 3)),upto (.len (rop ROp.cat [.var 3,.lit 1 [.con (.int .u8 0)]])) 4294967296,.ok (.var 0),.ok (.var 1),.ok (.var 2),same (.len (rop ROp.cat [.var 3,.lit 1 [.con (.int .u8 0)]])) (.len (rop ROp.cat [.var 3,.lit 1 [.con (.int .u8 0)]]))],[.var 0,.var 1,.var 2,rop ROp.cat [.var 3,.lit 1 [.con (.int .u8 0)]]]):=by kernel_rfl
theorem exq:segTo Tryz.prog fil.noOrc 10000 lqP shPo [0] shPo [(0,0),(1,0)]=some (.exit 2,[.ok (.bin .add (.var 1) (.var 0)),.ok (.bin .leq (.len (.var 3)) (.bin .add (.var 1) (.var 0))),.is (.bin .leq (.len (.var 3)) (.bin .add (.var 1) (.var 0))) (.bool false),.ok (.var 0),.ok (.var 1),.ok (.var 2),same (.len (.var 3)) (.len (.var 3))],[.var 0,.var 1,.var 2,.var 3]):=by kernel_rfl
theorem sto:segTo Tryz.prog fil.noOrc 10000 (inP.drop 1) shPo [] shPo [(0,0),(1,0)]=some (.normal,[.ok (.bin .add (.var 1) (.var 0)),.ok (sidx (.var 2) (.var 0)),rng (.bin .add (.var 1) (.var 0)) (.len (.var 3)),.idx (.var 3) (.bin .add (.var 1) (.var 0)) 1 1,.ok (.var 0),.ok (.var 1),.ok (.var 2),same (.len (.var 3)) (.len (rop (ROp.upd 1 0) [.var 3,.bin .add (.var 1) (.var 0),sidx (.var 2) (.var 0)]))],[.var 0,.var 1,.var 2,rop (ROp.upd 1 0) [.var 3,.bin .add (.var 1) (.var 0),sidx (.var 2) (.var 0)]]):=by kernel_rfl
theorem inc:segTo Tryz.prog fil.noOrc 10000 (lpP.drop 3) shPo [] shPo [(0,0),(1,0)]=some (.normal,[.ok (.bin .add (.var 0) (.con (.int .i64 1))),.ok (.bin .add (.var 0) (.con (.int .i64 1))),.ok (.var 1),.ok (.var 2),same (.len (.var 3)) (.len (.var 3))],[.bin .add (.var 0) (.con (.int .i64 1)),.var 1,.var 2,.var 3]):=by kernel_rfl
theorem post:segTo Tryz.prog fil.noOrc 10000 (flP.drop 6) shPo [] shPR []=some (.ret,[same (.len (.var 3)) (.len (.var 3)),.ok (rop ROp.toStr [.var 3]),.ok (rop ROp.toStr [.var 3])],[rop ROp.toStr [.var 3]]):=by kernel_rfl

theorem cutP:flP=flP.take 5++.block (Zao (nth flP 5)) (.loop (Zak (nth flP 5))) :: flP.drop 6:=by kernel_rfl
theorem cutL:lpP=lpP.take 2++.block (Zao (nth lpP 2)) (plainB (nth lpP 2)) :: lpP.drop 3:=by kernel_rfl
theorem cutI:inP=.block (Zao (nth inP 0)) (.loop (Zak (nth inP 0))) :: inP.drop 1:=by kernel_rfl
theorem block_plain {P:Program} {id:Nat} {b:Code} {k:List Code} {Q:Exit->Act->World->Prop} {a:Act} {w:World} (h:wpL P (flat b) (fun e a w=>e=.normal/\wpL P k Q a w) a w):wpL P (.block id b :: k) Q a w:=by
 refine wp_block (wp_mono (Zei h) ?_)
 rintro e a w ⟨rfl,h⟩
 exact h
theorem Zu0 (a:List UInt8):ropPV .cat [pBy a,.row 1 [pU 0]]=some (pBy (a++[0])):=r_cat a [0]
theorem r_upd (m:List UInt8) (z:Nat) (y:UInt8) (h:z < m.length):ropPV (.upd 1 0) [pBy m,pI (z:Int),pU (y.toNat:Int)]=some (pBy (m.set z y)):=by
 have h1:(0:Int)<=(z:Int):=by omega
 have h2:(z:Int) < (m.length:Int):=by omega
 have hp:putPV (m.map fun b=>PV.v (.int .u8 b.toNat)) z [pU (y.toNat:Int)]=(m.set z y).map fun b=>PV.v (.int .u8 b.toNat):=by
  rw [List.set_eq_take_append_cons_drop,if_pos h]
  simp [putPV,List.map_take,List.map_drop]
 simp only [ropPV,pBy,h1,h2,decide_true,Bool.and_self,Bool.true_and,List.length_singleton,Nat.zero_add,Nat.le_refl,cond_true,Int.toNat_natCast,Nat.mul_one,Nat.add_zero,hp,List.length_set]
def stp (l:List UInt8) (o:Nat) (x:List UInt8):Nat->List UInt8
 | 0=>l
 | i+1=>(grown (stp l o x i) (o+i+1)).set (o+i) (x.getD i 0)
theorem Zom (l:List UInt8) (N:Nat):(grown l N).length=max l.length N:=by simp [grown];omega
theorem Zwl (l:List UInt8) (o:Nat) (x:List UInt8):∀ i,(stp l o x (i+1)).length=max l.length (o+i+1)
 | 0=>by simp [stp,Zom]
 | i+1=>by
  have:=Zwl l o x i
  rw [stp,List.length_set,Zom,this]
  omega
theorem stp_le (l:List UInt8) (o:Nat) (x:List UInt8) (i:Nat):(stp l o x i).length<=max l.length (o+i):=by
 cases i with
 | zero=>simp [stp];omega
 | succ i=>rw [Zwl];omega
theorem grown_getD (l:List UInt8) (N k:Nat):(grown l N).getD k 0=l.getD k 0:=by
 simp only [grown,List.getD,List.getElem?_append]
 by_cases h:k < l.length
 ·rw [if_pos h]
 ·rw [if_neg h,List.getElem?_eq_none (by omega:l.length<=k)]
  by_cases h2:k - l.length < N - l.length
  ·simp [List.getElem?_replicate,h2]
  ·rw [List.getElem?_eq_none (by simp;omega)]
theorem stp_getD (l:List UInt8) (o:Nat) (x:List UInt8) (k:Nat):∀ i,(stp l o x i).getD k 0=if o<=k/\k < o+i then x.getD (k - o) 0 else l.getD k 0
 | 0=>by rw [if_neg (by omega)];rfl
 | i+1=>by
  have ih:=stp_getD l o x k i
  rw [stp]
  by_cases h:k=o+i
  ·subst h
   have hl:o+i < (grown (stp l o x i) (o+i+1)).length:=by rw [Zom];omega
   rw [if_pos ⟨by omega,by omega⟩]
   simp [List.getD,List.getElem?_set,hl]
  ·have:((grown (stp l o x i) (o+i+1)).set (o+i) (x.getD i 0)).getD k 0=(grown (stp l o x i) (o+i+1)).getD k 0:=by
    simp only [List.getD,List.getElem?_set]
    rw [if_neg (Ne.symm h)]
   rw [this,grown_getD,ih]
   by_cases h1:o<=k/\k < o+i
   ·rw [if_pos h1,if_pos ⟨h1.1,by omega⟩]
   ·rw [if_neg h1,if_neg (by omega)]
theorem ext_getD {a b:List UInt8} (hl:a.length=b.length) (h:∀ k,a.getD k 0=b.getD k 0):a=b:=by
 apply List.ext_getElem hl
 intro k h1 h2
 have:=h k
 simpa [List.getD,h1,h2] using this
theorem over_getD (m x:List UInt8) (o k:Nat) (h:o+x.length<=m.length):(over m x o).getD k 0=if k < o then m.getD k 0 else if k < o+x.length then x.getD (k - o) 0 else m.getD k 0:=by
 simp only [over,List.getD,List.getElem?_append,List.getElem?_take,List.getElem?_drop,List.length_append,List.length_take]
 rw [show min o m.length=o by omega]
 by_cases h1:k < o
 ·rw [if_pos (by omega),if_pos h1,if_pos h1,if_pos h1]
 ·by_cases h2:k < o+x.length
  ·rw [if_pos h2,if_neg h1,if_neg h1,if_pos h2]
  ·rw [if_neg h2,if_neg h1,if_neg h2]
   congr 2
   omega
theorem stp_put (l:List UInt8) (o:Nat) (s:ByteArray) (hm:mayW ((o:Int),s)=true):stp l o s.data.toList s.size=putW l ((o:Int),s):=by
 have hx:s.data.toList.length=s.size:=by simp
 have h1:1<=s.size:=by simp only [mayW,Bool.and_eq_true,decide_eq_true_eq] at hm;exact hm.1.1
 simp only [putW,hm,cond_true,Int.toNat_natCast]
 apply ext_getD
 ·obtain ⟨m,hmm⟩:∃ m,s.size=m+1:=⟨s.size - 1,by omega⟩
  have hg:=Zom l (o+s.size)
  have e:(over (grown l (o+s.size)) s.data.toList o).length=(grown l (o+s.size)).length:=by simp [over];omega
  rw [e,hg,hmm,Zwl]
  omega
 ·intro k
  rw [stp_getD,over_getD _ _ _ _ (by rw [hx,Zom];omega),grown_getD,hx]
  by_cases h1:k < o
  ·rw [if_pos h1,if_neg (by omega)]
  ·by_cases h2:k < o+s.size
   ·rw [if_neg h1,if_pos h2,if_pos ⟨by omega,h2⟩]
   ·rw [if_neg h1,if_neg h2,if_neg (by omega)]
theorem sidx_get (s:ByteArray) (k:Nat) (h:k < s.size):Zt2 (pS s) (pI (k:Int))=some (pU ((s.data.toList.getD k 0).toNat:Int)):=by
 have h0:(0:Int)<=(k:Int):=by omega
 have hl:k < s.data.toList.length:=by simpa using h
 simp only [Zt2,h0,if_true,Int.toNat_natCast]
 have:s[k]?=some (s.data.toList.getD k 0):=by
  rw [getElem?_pos s k h]
  simp only [List.getD,List.getElem?_eq_getElem hl,Option.getD_some]
  rfl
 rw [this]
 rfl
abbrev stO (i o:Nat) (s:ByteArray) (c:List UInt8):List PV:=[pI (i:Int),pI (o:Int),pS s,pBy c]
set_option maxHeartbeats 4000000 in
theorem told (k:Nat):ToldF 138 (EPut k) (spec RPut):=by
 refine Zek (fun _ _=>none) _ (Zar Tryz.prog 138) Tryz.func138 (by kernel_rfl) shP (by kernel_rfl) ?_ ?_
 ·intro ps qs h
  obtain ⟨b,o,s,_,_,_,_,rfl,rfl⟩:=Zaj h
  exact Zbd rfl
 ·intro C ps qs hF h a w hsh
  obtain ⟨b,o,s,hb,ho1,ho2,hs,rfl,rfl⟩:=Zaj h
  show wpL Tryz.prog flP _ a w
  have hbb:bs b.data.toList=b:=by simp [bs]
  have fin:∀ qs a1 w1 r,qs=[pS r]->r=bs (putW b.data.toList (o,s))->Zah C shPR qs a1 w1->(AX.ret=.normal->wpL Tryz.prog [] (fun e a' w'=>(e=.normal \/ e=.ret)/\∃ sh' ps' es,Zah C sh' ps' a' w'/\resTo Tryz.prog Tryz.f138 sh' (EPut k)=some es/\evs (fun i=>ps'[i]?) (fun _ _=>none) es=some [pS (bs (putW b.data.toList (o,s)))]) a1 w1)/\(AX.ret ≠ .normal->(AX.ret.to=.normal \/ AX.ret.to=.ret)/\∃ sh' ps' es,Zah C sh' ps' a1 w1/\resTo Tryz.prog Tryz.f138 sh' (EPut k)=some es/\evs (fun i=>ps'[i]?) (fun _ _=>none) es=some [pS (bs (putW b.data.toList (o,s)))]):=by
   rintro qs a1 w1 r rfl rfl h1
   exact ⟨nofun,fun _=>⟨.inr rfl,shPR,_,[SX.var 0],h1,by kernel_rfl,rfl⟩⟩
  have hno:mayW (o,s)=false->b=bs (putW b.data.toList (o,s)):=fun h=>by simp [putW,h,hbb]
  by_cases c1:0<=o
  rotate_left
  ·rw [<- List.append_nil flP]
   refine Zag Zad Zac fil.noOrc_ok no1 hsh ?_ (fun qs a1 w1 hq h1=>fin qs a1 w1 b (by simp [evs,SX.ev] at hq;exact hq.symm) (hno (by simp [mayW];omega)) h1)
   simp [Base.ev,SX.ev,evs,Za6,binPV,Value.oneCell']
   all_goals omega
  by_cases c2:o < 24
  rotate_left
  ·rw [<- List.append_nil flP]
   refine Zag Zad Zac fil.noOrc_ok no2 hsh ?_ (fun qs a1 w1 hq h1=>fin qs a1 w1 b (by simp [evs,SX.ev] at hq;exact hq.symm) (hno (by simp [mayW];omega)) h1)
   simp [Base.ev,SX.ev,evs,Za6,binPV,Value.oneCell',c1]
   all_goals omega
  by_cases c3:1<=s.size
  rotate_left
  ·rw [<- List.append_nil flP]
   refine Zag Zad Zac fil.noOrc_ok no3 hsh ?_ (fun qs a1 w1 hq h1=>fin qs a1 w1 b (by simp [evs,SX.ev] at hq;exact hq.symm) (hno (by simp [mayW];omega)) h1)
   simp [Base.ev,SX.ev,evs,Za6,binPV,Value.oneCell',c1,c2]
   all_goals omega
  have w1:IntKind.i64.wrap (24 - o)=24 - o:=wrapI _ (by omega) (by omega)
  by_cases c4:(s.size:Int)<=24 - o
  rotate_left
  ·rw [<- List.append_nil flP]
   refine Zag Zad Zac fil.noOrc_ok no4 hsh ?_ (fun qs a1 w1 hq h1=>fin qs a1 w1 b (by simp [evs,SX.ev] at hq;exact hq.symm) (hno (by simp [mayW];omega)) h1)
   simp [Base.ev,SX.ev,evs,Za6,binPV,Value.oneCell',c1,c2,w1]
   all_goals omega
  obtain ⟨o,rfl⟩:∃ o':Nat,o=(o':Int):=⟨o.toNat,by omega⟩
  have hmay:mayW ((o:Int),s)=true:=by simp [mayW];omega
  have hput:=stp_put b.data.toList o s hmay
  have hbl:b.data.toList.length=b.size:=by simp
  rw [cutP]
  refine Zag Zad Zac fil.noOrc_ok pre hsh ?_ ?_
  ·simp [Base.ev,SX.ev,evs,Za6,binPV,Znt,r_len,Value.oneCell',w1]
   all_goals omega
  ·intro qs a1 w1' hq h1
   refine ⟨fun _=>?_,fun h=>absurd rfl h⟩
   simp [evs,SX.ev,Znt] at hq
   subst hq
   refine Zau (fun q a w=>∃ i,i<=s.size/\q=s.size - i/\Zah C shPo (stO i o s (stp b.data.toList o s.data.toList i)) a w) ?_ (n:=s.size) ⟨0,by omega,by omega,h1⟩
   rintro q a w ⟨i,hi,rfl,hin⟩
   show wpL Tryz.prog lpP _ a w
   have hL:=stp_le b.data.toList o s.data.toList i
   have v1:IntKind.i64.wrap ((o:Int)+(i:Int))=((o+i:Nat):Int):=by rw [wrapI _ (by omega) (by omega)];rfl
   have v2:IntKind.i64.wrap ((i:Int)+1)=(i:Int)+1:=wrapI _ (by omega) (by omega)
   rw [cutL]
   by_cases hlt:i < s.size
   ·refine Zag Zad Zac fil.noOrc_ok on hin ?_ ?_
    ·simp [Base.ev,SX.ev,evs,Za6,binPV,r_len,Value.oneCell']
     all_goals omega
    ·intro qs a1 w1' hq h1
     refine ⟨fun _=>?_,fun h=>absurd rfl h⟩
     simp [evs,SX.ev] at hq
     subst hq
     refine block_plain ?_
     show wpL Tryz.prog inP _ a1 w1'
     rw [cutI]
     have hR:stp b.data.toList o s.data.toList (i+1)=(grown (stp b.data.toList o s.data.toList i) (o+i+1)).set (o+i) (s.data.toList.getD i 0):=rfl
     generalize stp b.data.toList o s.data.toList i=L at *
     refine Zau (fun q a w=>∃ j,j<=o+i+1 - L.length/\q=o+i+1 - L.length - j/\Zah C shPo (stO i o s (L++List.replicate j 0)) a w) ?_ (n:=o+i+1 - L.length) ⟨0,by omega,by omega,by simpa using h1⟩
     rintro q a w ⟨j,hj,rfl,hin⟩
     show wpL Tryz.prog lqP _ a w
     rw [<- List.append_nil lqP]
     obtain ⟨c,hc⟩:∃ c,c=L++List.replicate j 0:=⟨_,rfl⟩
     have hcl:c.length=L.length+j:=by rw [hc];simp
     rw [<- hc] at hin
     by_cases hle:c.length<=o+i
     ·have hc2:L++List.replicate (j+1) 0=c++[0]:=by rw [hc,List.append_assoc,List.replicate_succ']
      refine Zag Zad Zac fil.noOrc_ok app hin ?_ ?_
      ·clear hc hc2
       simp only [fmC,fmN]
       simp only [Base.ev,SX.ev,evs,Zqa,Zrz,fil.holds_same,fil.holds_upto,Zuv,Zuw,binPV,decide_true,cond_true,Option.bind_some,Option.map_some,List.getElem?_cons_zero,List.getElem?_cons_succ,v1,r_len,Zu0]
       simp [Value.oneCell']
       exact ⟨by omega,⟨c.length+1,by omega,by omega⟩,c.length+1,by omega⟩
      ·intro qs a2 w2 hq h2
       refine ⟨fun _=>.inl ⟨rfl,?_⟩,fun h=>absurd rfl h⟩
       simp only [evs,SX.ev,Option.bind_some,Option.map_some,List.getElem?_cons_zero,List.getElem?_cons_succ,Zu0,Option.some.injEq] at hq
       subst hq
       exact ⟨o+i+1 - L.length - (j+1),by omega,j+1,by omega,rfl,by rw [hc2];exact h2⟩
     ·have hcg:c=grown L (o+i+1):=by rw [hc,grown];congr 2;omega
      refine Zag Zad Zac fil.noOrc_ok exq hin ?_ ?_
      ·clear hc hcg
       simp only [fmC,fmN]
       simp only [Base.ev,SX.ev,evs,Zqa,Zrz,fil.holds_same,Zuv,Zuw,binPV,decide_true,cond_true,Option.bind_some,Option.map_some,List.getElem?_cons_zero,List.getElem?_cons_succ,v1,r_len]
       simp [Value.oneCell']
       all_goals omega
      ·intro qs a2 w2 hq h2
       refine ⟨nofun,fun _=>.inr (.inl ⟨by rw [show Zao (nth inP 0)=2 by kernel_rfl];rfl,?_⟩)⟩
       simp only [evs,SX.ev,Option.bind_some,Option.map_some,List.getElem?_cons_zero,List.getElem?_cons_succ,Option.some.injEq] at hq
       subst hq
       rw [<- List.append_nil (inP.drop 1)]
       have v4:=sidx_get s i hlt
       have hln:(stp b.data.toList o s.data.toList (i+1)).length=c.length:=by rw [hR,List.length_set,<- hcg]
       have v5:=r_upd c (o+i) (s.data.toList.getD i 0) (by omega)
       rw [hcg,<- hR,<- hcg] at v5
       generalize s.data.toList.getD i 0=y at v4 v5
       refine Zag Zad Zac fil.noOrc_ok sto h2 ?_ ?_
       ·clear hc hcg
        simp only [fmC,fmN]
        simp only [Base.ev,SX.ev,evs,Zqa,Zrz,fil.holds_same,fil.holds_rng,Zae,Zuv,Zuw,binPV,decide_true,cond_true,Option.bind_some,Option.map_some,List.getElem?_cons_zero,List.getElem?_cons_succ,v1,r_len,v4,v5]
        simp [Value.oneCell']
        exact ⟨⟨_,_,⟨rfl,rfl⟩,by omega,by omega⟩,⟨_,_,rfl,_,_,⟨rfl,rfl⟩,by omega,by omega,by simp;omega⟩,by rw [hln]⟩
       ·intro qs a3 w3 hq h3
        refine ⟨fun _=>⟨rfl,?_⟩,fun h=>absurd rfl h⟩
        simp only [evs,SX.ev,binPV,decide_true,cond_true,v1,v4,v5,Option.bind_some,Option.map_some,List.getElem?_cons_zero,List.getElem?_cons_succ,Option.some.injEq] at hq
        subst hq
        rw [<- List.append_nil (lpP.drop 3)]
        refine Zag Zad Zac fil.noOrc_ok inc h3 ?_ ?_
        ·simp [Base.ev,SX.ev,binPV,v2,r_len,Value.oneCell']
        ·intro qs a4 w4 hq h4
         refine ⟨fun _=>.inl ⟨rfl,s.size - (i+1),by omega,i+1,by omega,rfl,?_⟩,fun h=>absurd rfl h⟩
         simp [evs,SX.ev,binPV,v2] at hq
         subst hq
         exact h4
   ·have hie:i=s.size:=by omega
    refine Zag Zad Zac fil.noOrc_ok ex hin ?_ ?_
    ·simp [Base.ev,SX.ev,evs,Za6,binPV,r_len,Value.oneCell']
     all_goals omega
    ·intro qs a1 w1' hq h1
     refine ⟨nofun,fun _=>.inr (.inl ⟨by rw [show Zao (nth flP 5)=0 by kernel_rfl];rfl,?_⟩)⟩
     simp [evs,SX.ev] at hq
     subst hq
     rw [<- List.append_nil (flP.drop 6)]
     rw [hie] at h1
     rw [hput] at h1
     refine Zag Zad Zac fil.noOrc_ok post h1 ?_ (fun qs a1 w1 hq h1=>fin qs a1 w1 (bs (putW b.data.toList ((o:Int),s))) (by simp [evs,SX.ev,Zrg] at hq;exact hq.symm) rfl h1)
     simp [Base.ev,SX.ev,evs,r_len,Zrg,Value.oneCell']
end Go.Proofs.YtefkakjegdjojaaGreat.rpw
end
end
section
/- What the document's Zeo Zgr into a file, all of it: tenancyref7.All. -/
namespace Go.Proofs.YtefkakjegdjojaaGreat.ral
open Go Go.RowKit eng SX Fact fil fileFronts
set_option linter.unusedVariables false
set_option linter.unusedSimpArgs false
set_option maxRecDepth 1000000

noncomputable def flR:=flat (Zar Tryz.prog 97)
noncomputable def lpR:=flat (Zak (nth flR 2))
def tabR (f:FuncId):Option FnE:=cond (Nat.beq f 138) (some (EPut 2)) none
def shR:Shape:=⟨[(0,.leaf),(1,.leaf)],[],[none,some false],19,97⟩
def shRl:Shape:=⟨[(0,.leaf),(1,.leaf),(5,.leaf)],[],[none,some false,none],19,97⟩
def shRR:Shape:=⟨[(4,.leaf)],[],[none],19,97⟩
theorem preR:segTo Tryz.prog (orcFn tabR) 10000 (flR.take 2) shR [] shRl []=some (.normal,[.ok (.var 0),.ok (.con (.int .i64 0))],[.var 0,.var 1,.con (.int .i64 0)]):=by kernel_rfl
theorem onR:segTo Tryz.prog (orcFn tabR) 10000 lpR shRl [1] shRl []=some (.normal,[.ok (.len (.var 1)),.ok (.bin .lss (.var 2) (.len (.var 1))),.is (.bin .lss (.var 2) (.len (.var 1))) (.bool true),.idx (.var 1) (.var 2) 2 2,.idx (.var 1) (.var 2) 2 2,.ok (.cell (.var 1) (.var 2) 2 0),.ok (.cell (.var 1) (.var 2) 2 1),.fn 138 (EPut 2) [.var 0,.cell (.var 1) (.var 2) 2 0,.cell (.var 1) (.var 2) 2 1],.ok (.fn 2 [.var 0,.cell (.var 1) (.var 2) 2 0,.cell (.var 1) (.var 2) 2 1] 0),.ok (.bin .add (.var 2) (.con (.int .i64 1))),.ok (.fn 2 [.var 0,.cell (.var 1) (.var 2) 2 0,.cell (.var 1) (.var 2) 2 1] 0),.ok (.bin .add (.var 2) (.con (.int .i64 1)))],[.fn 2 [.var 0,.cell (.var 1) (.var 2) 2 0,.cell (.var 1) (.var 2) 2 1] 0,.var 1,.bin .add (.var 2) (.con (.int .i64 1))]):=by kernel_rfl
theorem exR:segTo Tryz.prog (orcFn tabR) 10000 lpR shRl [0] shRl []=some (.exit 0,[.ok (.len (.var 1)),.ok (.bin .lss (.var 2) (.len (.var 1))),.is (.bin .lss (.var 2) (.len (.var 1))) (.bool false),.ok (.var 0),.ok (.var 2)],[.var 0,.var 1,.var 2]):=by kernel_rfl
theorem postR:segTo Tryz.prog (orcFn tabR) 10000 (flR.drop 3) shRl [] shRR []=some (.ret,[.ok (.var 0)],[.var 0]):=by kernel_rfl

theorem cutR:flR=flR.take 2++.block (Zao (nth flR 2)) (.loop (Zak (nth flR 2))) :: flR.drop 3:=by kernel_rfl
noncomputable def FR:Fns:=fun k=>match k with | 2=>spec RPut | _=>fun _=>none
theorem t2R:ToldF 138 (EPut 2) (FR 2):=rpw.told 2
theorem FR2 {b:ByteArray} {o:Int} {s:ByteArray} (h1:b.size<=1000) (h2:-9223372036854775808<=o) (h3:o<=9223372036854775807) (h4:s.size<=1000000):FR 2 [pS b,pI o,pS s]=some [pS (bs (putW b.data.toList (o,s)))]:=Zal fPut ⟨b,o,s,h1,h2,h3,h4,rfl,rfl⟩
abbrev stR (ws:List (Int × ByteArray)) (i:Nat) (l:List UInt8):List PV:=[pS (bs l),pRow encW ws,pI (i:Int)]
set_option maxHeartbeats 2000000 in
theorem told (k:Nat):ToldF 97 (EAll k) (spec RAll):=by
 refine Zek FR _ (Zar Tryz.prog 97) Tryz.func97 (by kernel_rfl) shR (by kernel_rfl) ?_ ?_
 ·intro ps qs h
  obtain ⟨b,ws,_,_,_,rfl,rfl⟩:=Zaj h
  exact Zbd rfl
 ·intro C ps qs hF h a w hsh
  obtain ⟨b,ws,hb,hw,hwf,rfl,rfl⟩:=Zaj h
  show wpL Tryz.prog flR _ a w
  rw [cutR]
  have hbb:bs b.data.toList=b:=by simp [bs]
  refine Zag Zad Zac (Zai _) preR hsh ?_ ?_
  ·simp [Base.ev,SX.ev,evs,Value.oneCell']
  ·intro qs a1 w1 hq h1
   refine ⟨fun _=>?_,fun h=>absurd rfl h⟩
   simp [evs,SX.ev] at hq
   subst hq
   refine Zau (fun n a w=>∃ i,i<=ws.length/\n=ws.length - i/\Zah C shRl (stR ws i (allW b.data.toList (ws.take i))) a w) ?_ (n:=ws.length) ⟨0,by omega,by omega,by simp only [List.take_zero,allW,List.foldl_nil,hbb];exact h1⟩
   rintro n a w ⟨i,hi,rfl,hin⟩
   show wpL Tryz.prog lpR _ a w
   rw [<- List.append_nil lpR]
   have hL:(allW b.data.toList (ws.take i)).length<=1000:=by
    have:=Ztv (ws.take i) b.data.toList
    have hb':b.data.toList.length=b.size:=by simp
    omega
   by_cases hlt:i < ws.length
   ·have hstep:allW b.data.toList (ws.take (i+1))=putW (allW b.data.toList (ws.take i)) ws[i]:=by
     rw [List.take_add_one,List.getElem?_eq_getElem hlt]
     simp only [allW,Option.toList_some,List.foldl_append,List.foldl_cons,List.foldl_nil]
    have k0:Zb8 (pRow encW ws) (pI (i:Int)) 2 0=some (pI ws[i].1):=by rw [cellW ws i hlt 0 (by omega)];rfl
    have k1:Zb8 (pRow encW ws) (pI (i:Int)) 2 1=some (pS ws[i].2):=by rw [cellW ws i hlt 1 (by omega)];rfl
    obtain ⟨g1,g2,g3⟩:=hwf _ (List.getElem_mem hlt)
    generalize allW b.data.toList (ws.take i)=l at *
    have ix:(Fact.idx (var 1) (var 2) 2 2).holds (C.with (stR ws i l)):=Zrn encW ws i 2 2 rfl hlt (by decide)
    have w5:IntKind.i64.wrap ((i:Int)+1)=(i:Int)+1:=wrapI _ (by omega) (by omega)
    have e2:=FR2 (b:=bs l) (s:=ws[i].2) (by rw [Zw1];exact hL) g1 g2 g3
    rw [bs_list,show (ws[i].1,ws[i].2)=ws[i] from rfl,<- hstep] at e2
    have hlt':(i:Int) < (ws.length:Int):=by omega
    refine Zag Zad Zac (Zai _) onR hin ?_ ?_
    ·simp [-Zae,Base.ev,SX.ev,evs,hF,Zaf,binPV,Value.oneCell',hlt,k0,k1,ix,w5,e2,t2R]
    ·intro qs a1 w1 hq h1
     refine ⟨fun _=>.inl ⟨rfl,ws.length - (i+1),by omega,i+1,by omega,rfl,?_⟩,fun h=>absurd rfl h⟩
     simp [evs,SX.ev,hF,binPV,k0,k1,w5,e2] at hq
     subst hq
     exact h1
   ·have hie:i=ws.length:=by omega
    refine Zag Zad Zac (Zai _) exR hin ?_ ?_
    ·simp [Base.ev,SX.ev,evs,Zaf,binPV,Value.oneCell']
     all_goals omega
    ·intro qs a1 w1 hq h1
     refine ⟨nofun,fun _=>.inr (.inl ⟨by rw [show Zao (nth flR 2)=0 by kernel_rfl];rfl,?_⟩)⟩
     simp [evs,SX.ev] at hq
     subst hq
     rw [<- List.append_nil (flR.drop 3)]
     refine Zag Zad Zac (Zai _) postR h1 ?_ ?_
     ·simp [Base.ev,SX.ev,evs,Value.oneCell']
     ·intro qs a2 w2 hq h2
      refine ⟨nofun,fun _=>⟨.inr rfl,shRR,qs,[SX.var 0],h2,by kernel_rfl,?_⟩⟩
      simp [evs,SX.ev] at hq ⊢
      subst hq
      rw [hie,List.take_length]
      simp [bs]
end Go.Proofs.YtefkakjegdjojaaGreat.ral
end
