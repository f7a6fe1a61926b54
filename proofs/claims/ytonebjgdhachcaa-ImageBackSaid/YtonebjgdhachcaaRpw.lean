/- What the document's Zbz Zcw into a file: tenancyref7.PutWrite. -/
import Derived.Test.YtonebjgdhachcaaFroA
namespace Go.Proofs.Ytonebjgdhachcaa.rpw
open Go Go.RowKit eng SX Fact fil fileFronts
set_option linter.unusedVariables false
set_option linter.unusedSimpArgs false
set_option maxRecDepth 1000000

noncomputable def flP:=flat (Zar Try.prog 101)
def wvar:BoxT:=⟨26,0,false,[.leaf,.leaf],none,false⟩
def shP:Shape:=⟨[(0,.leaf),(1,.agg 2)],[],[none,none,none],42,101⟩
def shPR:Shape:=⟨[(4,.leaf)],[],[none],42,101⟩
def shPo:Shape:=⟨[(3,.ptr 0 0 0 0),(5,.own 1 3 1),(6,.leaf)],[wvar,brow 3],[none,none,none],42,101⟩
noncomputable def lpP:=flat (Zak (nth flP 5))
def plainB:Code->Code | .block _ b=>b | _=>.skip
noncomputable def inP:=flat (plainB (nth lpP 2))
noncomputable def lqP:=flat (Zak (nth inP 0))
theorem no1:segTo Try.prog fil.noOrc 10000 flP shP [0] shPR []=some (.ret,[.ok (.bin .geq (.var 1) (.con (.int .i64 0))),.is (.bin .geq (.var 1) (.con (.int .i64 0))) (.bool false),.ok (.var 0)],[.var 0]):=by kernel_rfl
theorem no2:segTo Try.prog fil.noOrc 10000 flP shP [1,0] shPR []=some (.ret,[.ok (.bin .geq (.var 1) (.con (.int .i64 0))),.is (.bin .geq (.var 1) (.con (.int .i64 0))) (.bool true),.ok (.bin .lss (.var 1) (.con (.int .i64 24))),.is (.bin .lss (.var 1) (.con (.int .i64 24))) (.bool false),.ok (.var 0)],[.var 0]):=by kernel_rfl
theorem no3:segTo Try.prog fil.noOrc 10000 flP shP [1,1,0] shPR []=some (.ret,[.ok (.bin .geq (.var 1) (.con (.int .i64 0))),.is (.bin .geq (.var 1) (.con (.int .i64 0))) (.bool true),.ok (.bin .lss (.var 1) (.con (.int .i64 24))),.is (.bin .lss (.var 1) (.con (.int .i64 24))) (.bool true),.ok (.slen (.var 2)),.ok (.bin .geq (.slen (.var 2)) (.con (.int .i64 1))),.is (.bin .geq (.slen (.var 2)) (.con (.int .i64 1))) (.bool false),.ok (.var 0)],[.var 0]):=by kernel_rfl
theorem no4:segTo Try.prog fil.noOrc 10000 flP shP [1,1,1,0] shPR []=some (.ret,[.ok (.bin .geq (.var 1) (.con (.int .i64 0))),.is (.bin .geq (.var 1) (.con (.int .i64 0))) (.bool true),.ok (.bin .lss (.var 1) (.con (.int .i64 24))),.is (.bin .lss (.var 1) (.con (.int .i64 24))) (.bool true),.ok (.slen (.var 2)),.ok (.bin .geq (.slen (.var 2)) (.con (.int .i64 1))),.is (.bin .geq (.slen (.var 2)) (.con (.int .i64 1))) (.bool true),.ok (.slen (.var 2)),.ok (.bin .sub (.con (.int .i64 24)) (.var 1)),.ok (.bin .leq (.slen (.var 2)) (.bin .sub (.con (.int .i64 24)) (.var 1))),.is (.bin .leq (.slen (.var 2)) (.bin .sub (.con (.int .i64 24)) (.var 1))) (.bool false),.ok (.var 0)],[.var 0]):=by kernel_rfl
theorem pre:segTo Try.prog fil.noOrc 10000 (flP.take 5) shP [1,1,1,1] shPo [(0,0),(2,0)]=some (.normal,[.ok (.bin .geq (.var 1) (.con (.int .i64 0))),.is (.bin .geq (.var 1) (.con (.int .i64 0))) (.bool true),.ok (.bin .lss (.var 1) (.con (.int .i64 24))),.is (.bin .lss (.var 1) (.con (.int .i64 24))) (.bool true),.ok (.slen (.var 2)),.ok (.bin .geq (.slen (.var 2)) (.con (.int .i64 1))),.is (.bin .geq (.slen (.var 2)) (.con (.int .i64 1))) (.bool true),.ok (.slen (.var 2)),.ok (.bin .sub (.con (.int .i64 24)) (.var 1)),.ok (.bin .leq (.slen (.var 2)) (.bin .sub (.con (.int .i64 24)) (.var 1))),.is (.bin .leq (.slen (.var 2)) (.bin .sub (.con (.int .i64 24)) (.var 1))) (.bool true),upto (.slen (.var 0)) 4294967296,.ok (.con (.int .i64 0)),.ok (.var 1),.ok (.var 2),same (.len (rop ROp.ofStr [.var 0])) (.len (rop ROp.ofStr [.var 0]))],[.con (.int .i64 0),.var 1,.var 2,rop ROp.ofStr [.var 0]]):=by kernel_rfl
theorem on:segTo Try.prog fil.noOrc 10000 (lpP.take 2) shPo [1] shPo [(0,0),(1,0)]=some (.normal,[.ok (.slen (.var 2)),.ok (.bin .lss (.var 0) (.slen (.var 2))),.is (.bin .lss (.var 0) (.slen (.var 2))) (.bool true),.ok (.var 0),.ok (.var 1),.ok (.var 2),same (.len (.var 3)) (.len (.var 3))],[.var 0,.var 1,.var 2,.var 3]):=by kernel_rfl
theorem ex:segTo Try.prog fil.noOrc 10000 (lpP.take 2) shPo [0] shPo [(0,0),(1,0)]=some (.exit 0,[.ok (.slen (.var 2)),.ok (.bin .lss (.var 0) (.slen (.var 2))),.is (.bin .lss (.var 0) (.slen (.var 2))) (.bool false),.ok (.var 0),.ok (.var 1),.ok (.var 2),same (.len (.var 3)) (.len (.var 3))],[.var 0,.var 1,.var 2,.var 3]):=by kernel_rfl
theorem app:segTo Try.prog fil.noOrc 10000 lqP shPo [1] shPo [(0,0),(1,1)]=some (.normal,[.ok (.bin .add (.var 1) (.var 0)),.ok (.bin .leq (.len (.var 3)) (.bin .add (.var 1) (.var 0))),.is (.bin .leq (.len (.var 3)) (.bin .add (.var 1) (.var 0))) (.bool true),same (.len (.var 3)) (.len (.var 3)),upto (.len (rop ROp.cat [.var 3,.lit 1 [.con (.int .u8 0)]])) 4294967296,.ok (.var 0),.ok (.var 1),.ok (.var 2),same (.len (rop ROp.cat [.var 3,.lit 1 [.con (.int .u8 0)]])) (.len (rop ROp.cat [.var 3,.lit 1 [.con (.int .u8 0)]]))],[.var 0,.var 1,.var 2,rop ROp.cat [.var 3,.lit 1 [.con (.int .u8 0)]]]):=by kernel_rfl
theorem exq:segTo Try.prog fil.noOrc 10000 lqP shPo [0] shPo [(0,0),(1,0)]=some (.exit 2,[.ok (.bin .add (.var 1) (.var 0)),.ok (.bin .leq (.len (.var 3)) (.bin .add (.var 1) (.var 0))),.is (.bin .leq (.len (.var 3)) (.bin .add (.var 1) (.var 0))) (.bool false),.ok (.var 0),.ok (.var 1),.ok (.var 2),same (.len (.var 3)) (.len (.var 3))],[.var 0,.var 1,.var 2,.var 3]):=by kernel_rfl
theorem sto:segTo Try.prog fil.noOrc 10000 (inP.drop 1) shPo [] shPo [(0,0),(1,0)]=some (.normal,[.ok (.bin .add (.var 1) (.var 0)),.ok (sidx (.var 2) (.var 0)),rng (.bin .add (.var 1) (.var 0)) (.len (.var 3)),.idx (.var 3) (.bin .add (.var 1) (.var 0)) 1 1,.ok (.var 0),.ok (.var 1),.ok (.var 2),same (.len (.var 3)) (.len (rop (ROp.upd 1 0) [.var 3,.bin .add (.var 1) (.var 0),sidx (.var 2) (.var 0)]))],[.var 0,.var 1,.var 2,rop (ROp.upd 1 0) [.var 3,.bin .add (.var 1) (.var 0),sidx (.var 2) (.var 0)]]):=by kernel_rfl
theorem inc:segTo Try.prog fil.noOrc 10000 (lpP.drop 3) shPo [] shPo [(0,0),(1,0)]=some (.normal,[.ok (.bin .add (.var 0) (.con (.int .i64 1))),.ok (.bin .add (.var 0) (.con (.int .i64 1))),.ok (.var 1),.ok (.var 2),same (.len (.var 3)) (.len (.var 3))],[.bin .add (.var 0) (.con (.int .i64 1)),.var 1,.var 2,.var 3]):=by kernel_rfl
theorem post:segTo Try.prog fil.noOrc 10000 (flP.drop 6) shPo [] shPR []=some (.ret,[same (.len (.var 3)) (.len (.var 3)),.ok (rop ROp.toStr [.var 3]),.ok (rop ROp.toStr [.var 3])],[rop ROp.toStr [.var 3]]):=by kernel_rfl

theorem cutP:flP=flP.take 5++.block (Zan (nth flP 5)) (.loop (Zak (nth flP 5))) :: flP.drop 6:=by kernel_rfl
theorem cutL:lpP=lpP.take 2++.block (Zan (nth lpP 2)) (plainB (nth lpP 2)) :: lpP.drop 3:=by kernel_rfl
theorem cutI:inP=.block (Zan (nth inP 0)) (.loop (Zak (nth inP 0))) :: inP.drop 1:=by kernel_rfl
theorem block_plain {P:Program} {id:Nat} {b:Code} {k:List Code} {Q:Exit->Act->World->Prop} {a:Act} {w:World} (h:wpL P (flat b) (fun e a w=>e=.normal/\wpL P k Q a w) a w):wpL P (.block id b :: k) Q a w:=by
 refine wp_block (wp_mono (Zbv h) ?_)
 rintro e a w ⟨rfl,h⟩
 exact h
theorem Zmb (a:List UInt8):ropPV .cat [pBy a,.row 1 [pU 0]]=some (pBy (a++[0])):=r_cat a [0]
theorem r_upd (m:List UInt8) (z:Nat) (y:UInt8) (h:z < m.length):ropPV (.upd 1 0) [pBy m,pI (z:Int),pU (y.toNat:Int)]=some (pBy (m.set z y)):=by
 have h1:(0:Int)<=(z:Int):=by omega
 have h2:(z:Int) < (m.length:Int):=by omega
 have hp:putPV (m.map fun b=>PV.v (.int .u8 b.toNat)) z [pU (y.toNat:Int)]=(m.set z y).map fun b=>PV.v (.int .u8 b.toNat):=by
  rw [List.set_eq_take_append_cons_drop,if_pos h]
  simp [putPV,List.map_take,List.map_drop]
 simp only [ropPV,pBy,h1,h2,decide_true,Bool.and_self,Bool.true_and,List.length_singleton,Nat.zero_add,Nat.le_refl,cond_true,Int.toNat_natCast,Nat.mul_one,Nat.add_zero,hp,List.length_set]
def stp (l:List UInt8) (o:Nat) (x:List UInt8):Nat->List UInt8
 | 0=>l
 | i+1=>(grown (stp l o x i) (o+i+1)).set (o+i) (x.getD i 0)
theorem Zfz (l:List UInt8) (N:Nat):(grown l N).length=max l.length N:=by simp [grown];omega
theorem Zok (l:List UInt8) (o:Nat) (x:List UInt8):∀ i,(stp l o x (i+1)).length=max l.length (o+i+1)
 | 0=>by simp [stp,Zfz]
 | i+1=>by
  have:=Zok l o x i
  rw [stp,List.length_set,Zfz,this]
  omega
theorem stp_le (l:List UInt8) (o:Nat) (x:List UInt8) (i:Nat):(stp l o x i).length<=max l.length (o+i):=by
 cases i with
 | zero=>simp [stp];omega
 | succ i=>rw [Zok];omega
theorem grown_getD (l:List UInt8) (N k:Nat):(grown l N).getD k 0=l.getD k 0:=by
 simp only [grown,List.getD,List.getElem?_append]
 by_cases h:k < l.length
 ·rw [if_pos h]
 ·rw [if_neg h,List.getElem?_eq_none (by omega:l.length<=k)]
  by_cases h2:k - l.length < N - l.length
  ·simp [List.getElem?_replicate,h2]
  ·rw [List.getElem?_eq_none (by simp;omega)]
theorem stp_getD (l:List UInt8) (o:Nat) (x:List UInt8) (k:Nat):∀ i,(stp l o x i).getD k 0=if o<=k/\k < o+i then x.getD (k - o) 0 else l.getD k 0
 | 0=>by rw [if_neg (by omega)];rfl
 | i+1=>by
  have ih:=stp_getD l o x k i
  rw [stp]
  by_cases h:k=o+i
  ·subst h
   have hl:o+i < (grown (stp l o x i) (o+i+1)).length:=by rw [Zfz];omega
   rw [if_pos ⟨by omega,by omega⟩]
   simp [List.getD,List.getElem?_set,hl]
  ·have:((grown (stp l o x i) (o+i+1)).set (o+i) (x.getD i 0)).getD k 0=(grown (stp l o x i) (o+i+1)).getD k 0:=by
    simp only [List.getD,List.getElem?_set]
    rw [if_neg (Ne.symm h)]
   rw [this,grown_getD,ih]
   by_cases h1:o<=k/\k < o+i
   ·rw [if_pos h1,if_pos ⟨h1.1,by omega⟩]
   ·rw [if_neg h1,if_neg (by omega)]
theorem ext_getD {a b:List UInt8} (hl:a.length=b.length) (h:∀ k,a.getD k 0=b.getD k 0):a=b:=by
 apply List.ext_getElem hl
 intro k h1 h2
 have:=h k
 simpa [List.getD,h1,h2] using this
theorem over_getD (m x:List UInt8) (o k:Nat) (h:o+x.length<=m.length):(over m x o).getD k 0=if k < o then m.getD k 0 else if k < o+x.length then x.getD (k - o) 0 else m.getD k 0:=by
 simp only [over,List.getD,List.getElem?_append,List.getElem?_take,List.getElem?_drop,List.length_append,List.length_take]
 rw [show min o m.length=o by omega]
 by_cases h1:k < o
 ·rw [if_pos (by omega),if_pos h1,if_pos h1,if_pos h1]
 ·by_cases h2:k < o+x.length
  ·rw [if_pos h2,if_neg h1,if_neg h1,if_pos h2]
  ·rw [if_neg h2,if_neg h1,if_neg h2]
   congr 2
   omega
theorem stp_put (l:List UInt8) (o:Nat) (s:ByteArray) (hm:mayW ((o:Int),s)=true):stp l o s.data.toList s.size=putW l ((o:Int),s):=by
 have hx:s.data.toList.length=s.size:=by simp
 have h1:1<=s.size:=by simp only [mayW,Bool.and_eq_true,decide_eq_true_eq] at hm;exact hm.1.1
 simp only [putW,hm,cond_true,Int.toNat_natCast]
 apply ext_getD
 ·obtain ⟨m,hmm⟩:∃ m,s.size=m+1:=⟨s.size - 1,by omega⟩
  have hg:=Zfz l (o+s.size)
  have e:(over (grown l (o+s.size)) s.data.toList o).length=(grown l (o+s.size)).length:=by simp [over];omega
  rw [e,hg,hmm,Zok]
  omega
 ·intro k
  rw [stp_getD,over_getD _ _ _ _ (by rw [hx,Zfz];omega),grown_getD,hx]
  by_cases h1:k < o
  ·rw [if_pos h1,if_neg (by omega)]
  ·by_cases h2:k < o+s.size
   ·rw [if_neg h1,if_pos h2,if_pos ⟨by omega,h2⟩]
   ·rw [if_neg h1,if_neg h2,if_neg (by omega)]
theorem sidx_get (s:ByteArray) (k:Nat) (h:k < s.size):Zj9 (pS s) (pI (k:Int))=some (pU ((s.data.toList.getD k 0).toNat:Int)):=by
 have h0:(0:Int)<=(k:Int):=by omega
 have hl:k < s.data.toList.length:=by simpa using h
 simp only [Zj9,h0,if_true,Int.toNat_natCast]
 have:s[k]?=some (s.data.toList.getD k 0):=by
  rw [getElem?_pos s k h]
  simp only [List.getD,List.getElem?_eq_getElem hl,Option.getD_some]
  rfl
 rw [this]
 rfl
abbrev stO (i o:Nat) (s:ByteArray) (c:List UInt8):List PV:=[pI (i:Int),pI (o:Int),pS s,pBy c]
set_option maxHeartbeats 4000000 in
theorem told (k:Nat):ToldF 101 (EPut k) (spec RPut):=by
 refine Zcq (fun _ _=>none) _ (Zar Try.prog 101) Try.func101 (by kernel_rfl) shP (by kernel_rfl) ?_ ?_
 ·intro ps qs h i hi
  obtain ⟨b,o,s,_,_,_,_,rfl,rfl⟩:=Zai h
  simp [shP] at hi
  match i,hi with
  | 0,hi=>exact ⟨_,rfl,rfl⟩
  | 1,hi=>exact ⟨_,rfl,rfl⟩
  | 2,hi=>exact ⟨_,rfl,rfl⟩
  | i+3,hi=>simp at hi
 ·intro C ps qs hF h a w hsh
  obtain ⟨b,o,s,hb,ho1,ho2,hs,rfl,rfl⟩:=Zai h
  show wpL Try.prog flP _ a w
  have hbb:bs b.data.toList=b:=by simp [bs]
  have fin:∀ qs a1 w1 r,qs=[pS r]->r=bs (putW b.data.toList (o,s))->Zah C shPR qs a1 w1->(AX.ret=.normal->wpL Try.prog [] (fun e a' w'=>(e=.normal \/ e=.ret)/\∃ sh' ps' es,Zah C sh' ps' a' w'/\resTo Try.prog Try.f101 sh' (EPut k)=some es/\evs (fun i=>ps'[i]?) (fun _ _=>none) es=some [pS (bs (putW b.data.toList (o,s)))]) a1 w1)/\(AX.ret ≠ .normal->(AX.ret.to=.normal \/ AX.ret.to=.ret)/\∃ sh' ps' es,Zah C sh' ps' a1 w1/\resTo Try.prog Try.f101 sh' (EPut k)=some es/\evs (fun i=>ps'[i]?) (fun _ _=>none) es=some [pS (bs (putW b.data.toList (o,s)))]):=by
   rintro qs a1 w1 r rfl rfl h1
   exact ⟨fun h=>(by cases h),fun _=>⟨.inr rfl,shPR,_,[SX.var 0],h1,by kernel_rfl,rfl⟩⟩
  have hno:mayW (o,s)=false->b=bs (putW b.data.toList (o,s)):=fun h=>by simp [putW,h,hbb]
  by_cases c1:0<=o
  rotate_left
  ·rw [<- List.append_nil flP]
   refine Zag Zac Zad fil.noOrc_ok no1 hsh ?_ (fun qs a1 w1 hq h1=>fin qs a1 w1 b (by simp [evs,SX.ev] at hq;exact hq.symm) (hno (by simp [mayW];omega)) h1)
   simp only [fmC,fmN]
   simp [Base.ev,SX.ev,evs,Za4,binPV,Value.oneCell']
   all_goals omega
  by_cases c2:o < 24
  rotate_left
  ·rw [<- List.append_nil flP]
   refine Zag Zac Zad fil.noOrc_ok no2 hsh ?_ (fun qs a1 w1 hq h1=>fin qs a1 w1 b (by simp [evs,SX.ev] at hq;exact hq.symm) (hno (by simp [mayW];omega)) h1)
   simp only [fmC,fmN]
   simp [Base.ev,SX.ev,evs,Za4,binPV,Value.oneCell',c1]
   all_goals omega
  by_cases c3:1<=s.size
  rotate_left
  ·rw [<- List.append_nil flP]
   refine Zag Zac Zad fil.noOrc_ok no3 hsh ?_ (fun qs a1 w1 hq h1=>fin qs a1 w1 b (by simp [evs,SX.ev] at hq;exact hq.symm) (hno (by simp [mayW];omega)) h1)
   simp only [fmC,fmN]
   simp [Base.ev,SX.ev,evs,Za4,binPV,Value.oneCell',c1,c2]
   all_goals omega
  have w1:IntKind.i64.wrap (24 - o)=24 - o:=wrapI _ (by omega) (by omega)
  by_cases c4:(s.size:Int)<=24 - o
  rotate_left
  ·rw [<- List.append_nil flP]
   refine Zag Zac Zad fil.noOrc_ok no4 hsh ?_ (fun qs a1 w1 hq h1=>fin qs a1 w1 b (by simp [evs,SX.ev] at hq;exact hq.symm) (hno (by simp [mayW];omega)) h1)
   simp only [fmC,fmN]
   simp [Base.ev,SX.ev,evs,Za4,binPV,Value.oneCell',c1,c2,w1]
   all_goals omega
  obtain ⟨o,rfl⟩:∃ o':Nat,o=(o':Int):=⟨o.toNat,by omega⟩
  have hmay:mayW ((o:Int),s)=true:=by simp [mayW];omega
  have hput:=stp_put b.data.toList o s hmay
  have hbl:b.data.toList.length=b.size:=by simp
  rw [cutP]
  refine Zag Zac Zad fil.noOrc_ok pre hsh ?_ ?_
  ·simp only [fmC,fmN]
   simp [Base.ev,SX.ev,evs,Za4,binPV,Zil,r_len,Value.oneCell',w1]
   all_goals omega
  ·intro qs a1 w1' hq h1
   refine ⟨fun _=>?_,fun h=>absurd rfl h⟩
   simp [evs,SX.ev,Zil] at hq
   subst hq
   refine Zay (fun q a w=>∃ i,i<=s.size/\q=s.size - i/\Zah C shPo (stO i o s (stp b.data.toList o s.data.toList i)) a w) ?_ (n:=s.size) ⟨0,by omega,by omega,h1⟩
   rintro q a w ⟨i,hi,rfl,hin⟩
   show wpL Try.prog lpP _ a w
   have hL:=stp_le b.data.toList o s.data.toList i
   have v1:IntKind.i64.wrap ((o:Int)+(i:Int))=((o+i:Nat):Int):=by rw [wrapI _ (by omega) (by omega)];rfl
   have v2:IntKind.i64.wrap ((i:Int)+1)=(i:Int)+1:=wrapI _ (by omega) (by omega)
   rw [cutL]
   by_cases hlt:i < s.size
   ·refine Zag Zac Zad fil.noOrc_ok on hin ?_ ?_
    ·simp only [fmC,fmN]
     simp [Base.ev,SX.ev,evs,Za4,binPV,r_len,Value.oneCell']
     all_goals omega
    ·intro qs a1 w1' hq h1
     refine ⟨fun _=>?_,fun h=>absurd rfl h⟩
     simp [evs,SX.ev] at hq
     subst hq
     refine block_plain ?_
     show wpL Try.prog inP _ a1 w1'
     rw [cutI]
     have hR:stp b.data.toList o s.data.toList (i+1)=(grown (stp b.data.toList o s.data.toList i) (o+i+1)).set (o+i) (s.data.toList.getD i 0):=rfl
     generalize stp b.data.toList o s.data.toList i=L at *
     refine Zay (fun q a w=>∃ j,j<=o+i+1 - L.length/\q=o+i+1 - L.length - j/\Zah C shPo (stO i o s (L++List.replicate j 0)) a w) ?_ (n:=o+i+1 - L.length) ⟨0,by omega,by omega,by simpa using h1⟩
     rintro q a w ⟨j,hj,rfl,hin⟩
     show wpL Try.prog lqP _ a w
     rw [<- List.append_nil lqP]
     obtain ⟨c,hc⟩:∃ c,c=L++List.replicate j 0:=⟨_,rfl⟩
     have hcl:c.length=L.length+j:=by rw [hc];simp
     rw [<- hc] at hin
     by_cases hle:c.length<=o+i
     ·have hc2:L++List.replicate (j+1) 0=c++[0]:=by rw [hc,List.append_assoc,List.replicate_succ']
      refine Zag Zac Zad fil.noOrc_ok app hin ?_ ?_
      ·clear hc hc2
       simp only [fmC,fmN]
       simp only [Base.ev,SX.ev,evs,Zga,Zh4,fil.holds_same,fil.holds_upto,Zl6,Zl7,binPV,decide_true,cond_true,Option.bind_some,Option.map_some,List.getElem?_cons_zero,List.getElem?_cons_succ,v1,r_len,Zmb]
       simp [Value.oneCell']
       exact ⟨by omega,⟨c.length+1,by omega,by omega⟩,c.length+1,by omega⟩
      ·intro qs a2 w2 hq h2
       refine ⟨fun _=>.inl ⟨rfl,?_⟩,fun h=>absurd rfl h⟩
       simp only [evs,SX.ev,Option.bind_some,Option.map_some,List.getElem?_cons_zero,List.getElem?_cons_succ,Zmb,Option.some.injEq] at hq
       subst hq
       exact ⟨o+i+1 - L.length - (j+1),by omega,j+1,by omega,rfl,by rw [hc2];exact h2⟩
     ·have hcg:c=grown L (o+i+1):=by rw [hc,grown];congr 2;omega
      refine Zag Zac Zad fil.noOrc_ok exq hin ?_ ?_
      ·clear hc hcg
       simp only [fmC,fmN]
       simp only [Base.ev,SX.ev,evs,Zga,Zh4,fil.holds_same,Zl6,Zl7,binPV,decide_true,cond_true,Option.bind_some,Option.map_some,List.getElem?_cons_zero,List.getElem?_cons_succ,v1,r_len]
       simp [Value.oneCell']
       all_goals omega
      ·intro qs a2 w2 hq h2
       refine ⟨fun h=>(by cases h),fun _=>.inr (.inl ⟨by rw [show Zan (nth inP 0)=2 by kernel_rfl];rfl,?_⟩)⟩
       simp only [evs,SX.ev,Option.bind_some,Option.map_some,List.getElem?_cons_zero,List.getElem?_cons_succ,Option.some.injEq] at hq
       subst hq
       rw [<- List.append_nil (inP.drop 1)]
       have v4:=sidx_get s i hlt
       have hln:(stp b.data.toList o s.data.toList (i+1)).length=c.length:=by rw [hR,List.length_set,<- hcg]
       have v5:=r_upd c (o+i) (s.data.toList.getD i 0) (by omega)
       rw [hcg,<- hR,<- hcg] at v5
       generalize s.data.toList.getD i 0=y at v4 v5
       refine Zag Zac Zad fil.noOrc_ok sto h2 ?_ ?_
       ·clear hc hcg
        simp only [fmC,fmN]
        simp only [Base.ev,SX.ev,evs,Zga,Zh4,fil.holds_same,fil.holds_rng,Zae,Zl6,Zl7,binPV,decide_true,cond_true,Option.bind_some,Option.map_some,List.getElem?_cons_zero,List.getElem?_cons_succ,v1,r_len,v4,v5]
        simp [Value.oneCell']
        exact ⟨⟨_,_,⟨rfl,rfl⟩,by omega,by omega⟩,⟨_,_,rfl,_,_,⟨rfl,rfl⟩,by omega,by omega,by simp;omega⟩,by rw [hln]⟩
       ·intro qs a3 w3 hq h3
        refine ⟨fun _=>⟨rfl,?_⟩,fun h=>absurd rfl h⟩
        simp only [evs,SX.ev,binPV,decide_true,cond_true,v1,v4,v5,Option.bind_some,Option.map_some,List.getElem?_cons_zero,List.getElem?_cons_succ,Option.some.injEq] at hq
        subst hq
        rw [<- List.append_nil (lpP.drop 3)]
        refine Zag Zac Zad fil.noOrc_ok inc h3 ?_ ?_
        ·simp only [fmC,fmN]
         simp [Base.ev,SX.ev,binPV,v2,r_len,Value.oneCell']
        ·intro qs a4 w4 hq h4
         refine ⟨fun _=>.inl ⟨rfl,s.size - (i+1),by omega,i+1,by omega,rfl,?_⟩,fun h=>absurd rfl h⟩
         simp [evs,SX.ev,binPV,v2] at hq
         subst hq
         exact h4
   ·have hie:i=s.size:=by omega
    refine Zag Zac Zad fil.noOrc_ok ex hin ?_ ?_
    ·simp only [fmC,fmN]
     simp [Base.ev,SX.ev,evs,Za4,binPV,r_len,Value.oneCell']
     all_goals omega
    ·intro qs a1 w1' hq h1
     refine ⟨fun h=>(by cases h),fun _=>.inr (.inl ⟨by rw [show Zan (nth flP 5)=0 by kernel_rfl];rfl,?_⟩)⟩
     simp [evs,SX.ev] at hq
     subst hq
     rw [<- List.append_nil (flP.drop 6)]
     rw [hie] at h1
     rw [hput] at h1
     refine Zag Zac Zad fil.noOrc_ok post h1 ?_ (fun qs a1 w1 hq h1=>fin qs a1 w1 (bs (putW b.data.toList ((o:Int),s))) (by simp [evs,SX.ev,Zoq] at hq;exact hq.symm) rfl h1)
     simp only [fmC,fmN]
     simp [Base.ev,SX.ev,evs,r_len,Zoq,Value.oneCell']
end Go.Proofs.Ytonebjgdhachcaa.rpw
