/- What is written into files: what the laws of writes reckon with. -/
import Derived.Test.YtcaclmdkhffegaaPck
import Derived.Test.YtcaclmdkhffegaaFrame
namespace Go.Proofs.Ytcaclmdkhffegaa.fileFronts
open Go Go.RowKit eng SX Fact fil pck
set_option linter.unusedVariables false
set_option linter.unusedSimpArgs false
set_option maxRecDepth 1000000

def bs (l:List UInt8):ByteArray:=⟨l.toArray⟩
def EPut (k:Nat):FnE:={ k:=k,ins:=[none,some 2],leaks:=[false,false,false],outs:=[none],kinds:=[.num] }
@[simp] theorem kPut (k:Nat):(EPut k).k=k:=rfl
@[simp] theorem holds_fn (B:Base) (f:FuncId) (E:FnE) (es:List SX):(Fact.fn f E es).holds B ↔ ToldF f E (B.F E.k)/\∃ ps qs,evs B.s B.F es=some ps/\B.F E.k ps=some qs:=Iff.rfl
@[simp] theorem kAll (k:Nat):(EAll k).k=k:=rfl
@[simp] theorem kWs (k:Nat):(EWs k).k=k:=rfl

@[simp] theorem ex_cast0 (p:Nat->Prop):(∃ a:Nat,(0:Int)=(a:Int)/\p a) ↔ p 0:=by
 constructor
 ·rintro ⟨a,h,hp⟩
  have:a=0:=by omega
  rw [this] at hp
  exact hp
 ·exact fun h=>⟨0,rfl,h⟩
@[simp] theorem Zai (B:Base) (e i:SX) (sz q:Nat):(Fact.idx e i sz q).holds B ↔ ∃ n cs k z,B.ev e=some (.row n cs)/\B.ev i=some (.v (.int k z))/\0<=z/\z < (n:Int)/\z.toNat * sz+q<=cs.length:=Iff.rfl
set_option maxHeartbeats 4000000 in
theorem encU_all:∀ zs:List Nat,encU.all zs=u8s zs
 | []=>rfl
 | z :: zs=>by
  rw [Enc.all_cons,encU_all zs]
  rfl
theorem rowU {w:World} {v:Value} {len:Nat} {Z:Nat->Int} (h:IsRow .u8 w v len Z):∃ l:List Nat,(∀ z ∈ l,z < 256)/\l.length<=9223372036854775807/\Reads w (pRow encU l) v:=by
 obtain ⟨zs,hzl,hz,hr⟩:=row_u8 h
 have hall:=encU_all zs
 obtain ⟨a,cap,rfl,h1,h2,h3⟩:=hr
 rw [u8s_length] at h1 h3
 have hm:=Zhp h2
 refine ⟨zs,hz,by omega,(Zkc encU).2 ⟨a,cap,by rw [u8s_length],h1,h2,fun h0=>?_⟩⟩
 obtain ⟨b,off,rfl,h4⟩:=h3 h0
 have hlt:0 < (u8s zs).length:=by rw [u8s_length];exact h0
 refine ⟨b,off,rfl,World.block_lt_of_cell? w ⟨b,off+0,none⟩ (h4 0 _ (List.getElem?_eq_getElem hlt)),fun i u hu=>?_⟩
 rw [hall] at hu
 exact h4 i u hu
end Go.Proofs.Ytcaclmdkhffegaa.fileFronts
