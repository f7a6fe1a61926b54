/- What is Zb0 into files: what the laws of Zcw reckon with. -/
import Derived.Test.YtonebjgdhachcaaPck
import Derived.Test.YtonebjgdhachcaaFrame
namespace Go.Proofs.Ytonebjgdhachcaa.fileFronts
open Go Go.RowKit eng SX Fact fil pck
set_option linter.unusedVariables false
set_option linter.unusedSimpArgs false
set_option maxRecDepth 1000000

def bs (l:List UInt8):ByteArray:=⟨l.toArray⟩
def EPut (k:Nat):FnE:={ k:=k,ins:=[none,some 2],leaks:=[false,false,false],outs:=[none],kinds:=[.num] }
def RPut (ps qs:List PV):Prop:=∃ (b:ByteArray) (o:Int) (s:ByteArray),b.size<=1000/\-9223372036854775808<=o/\o<=9223372036854775807/\s.size<=1000000/\ps=[pS b,pI o,pS s]/\qs=[pS (bs (putW b.data.toList (o,s)))]
theorem fPut:∀ ps q1 q2,RPut ps q1->RPut ps q2->q1=q2:=by
 rintro ps q1 q2 ⟨b,o,s,_,_,_,_,rfl,rfl⟩ ⟨b',o',s',_,_,_,_,h,rfl⟩
 simp only [List.cons.injEq,PV.v.injEq,Value.string.injEq,Value.int.injEq,true_and,and_true] at h
 obtain ⟨rfl,rfl,rfl⟩:=h
 rfl
@[simp] theorem kPut (k:Nat):(EPut k).k=k:=rfl
@[simp] theorem holds_fn (B:Base) (f:FuncId) (E:FnE) (es:List SX):(Fact.fn f E es).holds B ↔ ToldF f E (B.F E.k)/\∃ ps qs,evs B.s B.F es=some ps/\B.F E.k ps=some qs:=Iff.rfl
@[simp] theorem kAll (k:Nat):(EAll k).k=k:=rfl
@[simp] theorem kWs (k:Nat):(EWs k).k=k:=rfl
theorem bs_list (l:List UInt8):(bs l).data.toList=l:=by simp [bs]
theorem Zo6 (l:List UInt8):(bs l).size=l.length:=by simp [bs,ByteArray.size]
theorem tbl_size:∀ j,(tbl j).size<=14
 | 0=>by decide
 | 1=>by decide
 | 2=>by decide
 | 3=>by decide
 | 4=>by decide
 | 5=>by decide
 | _+6=>by show (⟨⟨[UInt8.ofNat 120]⟩⟩:ByteArray).size<=14;decide
theorem wseq_ok (l:List Nat):∀ c n,∀ w ∈ (wseq l c n).1,0<=w.1/\w.1 < 10/\w.2.size<=14
 | 0,n,w,h=>by simp [wseq] at h
 | c+1,n,w,h=>by
  simp only [wseq,List.mem_cons] at h
  rcases h with rfl | h
  ·have:=Zc2 (l:=l) (n:=n) (m:=10) (by omega)
   simp only [wr1]
   exact ⟨by omega,by omega,tbl_size _⟩
  ·exact wseq_ok l c _ w h

@[simp] theorem ex_cast0 (p:Nat->Prop):(∃ a:Nat,(0:Int)=(a:Int)/\p a) ↔ p 0:=by
 constructor
 ·rintro ⟨a,h,hp⟩
  have:a=0:=by omega
  rw [this] at hp
  exact hp
 ·exact fun h=>⟨0,rfl,h⟩
theorem cellW2 (ws:List (Int × ByteArray)) (i:Nat) (h:i < ws.length):Zbh (pRow encW ws) (pI (i:Int)) 2 0=some (pI ws[i].1)/\Zbh (pRow encW ws) (pI (i:Int)) 2 1=some (pS ws[i].2):=by
 constructor
 ·rw [cellW ws i h 0 (by omega)];rfl
 ·rw [cellW ws i h 1 (by omega)];rfl
@[simp] theorem Zae (B:Base) (e i:SX) (sz q:Nat):(Fact.idx e i sz q).holds B ↔ ∃ n cs k z,B.ev e=some (.row n cs)/\B.ev i=some (.v (.int k z))/\0<=z/\z < (n:Int)/\z.toNat * sz+q<=cs.length:=Iff.rfl
set_option maxHeartbeats 4000000 in
theorem encU_all:∀ zs:List Nat,encU.all zs=u8s zs
 | []=>rfl
 | z :: zs=>by
  rw [Enc.all_cons,encU_all zs]
  rfl
theorem rowU {w:World} {v:Value} {len:Nat} {Z:Nat->Int} (h:IsRow .u8 w v len Z):∃ l:List Nat,(∀ z ∈ l,z < 256)/\l.length<=9223372036854775807/\Reads w (pRow encU l) v:=by
 obtain ⟨zs,hzl,hz,hr⟩:=row_u8 h
 have hall:=encU_all zs
 obtain ⟨a,cap,rfl,h1,h2,h3⟩:=hr
 rw [u8s_length] at h1 h3
 have hm:=Zh2 h2
 refine ⟨zs,hz,by omega,(reads_row encU).2 ⟨a,cap,by rw [u8s_length],h1,h2,fun h0=>?_⟩⟩
 obtain ⟨b,off,rfl,h4⟩:=h3 h0
 have hlt:0 < (u8s zs).length:=by rw [u8s_length];exact h0
 refine ⟨b,off,rfl,World.block_lt_of_cell? w ⟨b,off+0,none⟩ (h4 0 _ (List.getElem?_eq_getElem hlt)),fun i u hu=>?_⟩
 rw [hall] at hu
 exact h4 i u hu
end Go.Proofs.Ytonebjgdhachcaa.fileFronts
