/- Texts joined. -/
import Derived.Test.YtgdegpifjljnoaaMrg4
import Derived.Test.YtgdegpifjljnoaaFrame
section
/- Texts joined. -/
section
/- What the symbolic engine's user needs, more of it. -/
namespace Go.Proofs.Ytgdegpifjljnoaa.eng
open Go Go.RowKit
set_option linter.unusedVariables false
set_option linter.unusedSimpArgs false
@[simp] theorem ex_kz (k0:IntKind) (x:Int) (p:Int->Prop):(∃ k z,(k0=k/\x=z)/\p z) ↔ p x:=⟨fun ⟨_,_,⟨_,h⟩,hp⟩=>h ▸ hp,fun h=>⟨_,_,⟨rfl,rfl⟩,h⟩⟩
@[simp] theorem ex_one:(∃ z:Nat,(1:Int)=(z:Int)) ↔ True:=⟨fun _=>trivial,fun _=>⟨1,rfl⟩⟩
@[simp] theorem ex_one' (K:Nat):(∃ z:Nat,(1:Int)=(z:Int)/\z<=K) ↔ 1<=K:=⟨fun ⟨z,h,h2⟩=>by omega,fun h=>⟨1,rfl,h⟩⟩
theorem all_len {α:Type} (E:Enc α) (xs:List α):(E.all xs).length=xs.length * E.sz:=E.all_length xs
theorem all_split' {α:Type} (E:Enc α) (xs:List α) (i:Nat) (h:i < xs.length):E.all xs=E.all (xs.take i)++(E.enc xs[i]++E.all (xs.drop (i+1))):=by
 rw [<- Enc.all_cons,<- Enc.all_append,<- List.drop_eq_getElem_cons h,List.take_append_drop]
theorem set_split {α:Type} (xs:List α) (i:Nat) (x:α) (h:i < xs.length):xs.set i x=xs.take i++x :: xs.drop (i+1):=by
 rw [List.set_eq_take_append_cons_drop,if_pos h]
theorem Zlg {α:Type} (E:Enc α) (xs:List α) (i:Nat) (k:IntKind) (x:α) (h:i < xs.length):ropPV (.upd E.sz 0) (pRow E xs :: .v (.int k (i:Int)) :: (E.enc x).map .v)=some (pRow E (xs.set i x)):=by
 have h0:(0:Int)<=(i:Int):=by omega
 have h1:(i:Int) < (xs.length:Int):=by omega
 have hl:(E.all (xs.take i)).length=i * E.sz:=by rw [all_len,List.length_take,Nat.min_eq_left (by omega)]
 have hp:putPV ((E.all xs).map PV.v) (i * E.sz) ((E.enc x).map PV.v)=(E.all (xs.set i x)).map PV.v:=by
  rw [set_split xs i x h,Enc.all_append,Enc.all_cons,all_split' E xs i h]
  simp only [putPV,List.length_map,E.len,<- hl,List.map_append]
  rw [List.take_left' (by simp),<- List.append_assoc ((E.all (xs.take i)).map PV.v),List.drop_left' (by simp [E.len]),List.append_assoc]
 simp [ropPV,pRow,h1,E.len,hp]
def IdxP (p q:Option PV) (sz sub:Nat):Prop:=∃ n cs k z,p=some (.row n cs)/\q=some (.v (.int k z))/\0<=z/\z < (n:Int)/\z.toNat * sz+sub<=cs.length
theorem Zab (B:Base) (e i:SX) (sz sub:Nat):(Fact.idx e i sz sub).holds B ↔ IdxP (B.ev e) (B.ev i) sz sub:=Iff.rfl
theorem Za1 {α:Type} (E:Enc α) (xs:List α) (j sz sub:Nat) (k:IntKind) (hz:sz=E.sz) (h:j < xs.length) (hs:sub<=E.sz):IdxP (some (pRow E xs)) (some (.v (.int k (j:Int)))) sz sub:=by
 subst hz
 refine ⟨_,_,_,_,rfl,rfl,by omega,by omega,?_⟩
 rw [List.length_map,E.all_length]
 have:(j+1) * E.sz<=xs.length * E.sz:=Nat.mul_le_mul_right _ h
 rw [Nat.add_mul] at this
 simp
 omega
def CellsP (p:Option PV) (sz:Nat):Prop:=∃ (n:Nat) (vs:List Value),p=some (.row n (vs.map PV.v))/\vs.length=n * sz/\n<=maxLen/\∀ v ∈ vs,v.oneCell'=true
theorem Zaa (B:Base) (e:SX) (sz:Nat):(Fact.cells e sz).holds B ↔ CellsP (B.ev e) sz:=Iff.rfl
@[simp] theorem ex_zero:(∃ z:Nat,(0:Int)=(z:Int)) ↔ True:=⟨fun _=>trivial,fun _=>⟨0,rfl⟩⟩
@[simp] theorem ex_two:(∃ z:Nat,(2:Int)=(z:Int)) ↔ True:=⟨fun _=>trivial,fun _=>⟨2,rfl⟩⟩
end Go.Proofs.Ytgdegpifjljnoaa.eng
end
section
/- Parts of texts, and things compared, as the symbolic engine has them. -/
namespace Go.Proofs.Ytgdegpifjljnoaa.symD
open Go Go.RowKit eng
set_option linter.unusedVariables false
set_option linter.unusedSimpArgs false
set_option maxRecDepth 100000



end Go.Proofs.Ytgdegpifjljnoaa.symD
end
end
section
/- Slices of arrays of bytes, of any length, as rows. -/
namespace Go.Proofs.Ytgdegpifjljnoaa.grd
open Go Go.RowKit eng
set_option linter.unusedVariables false
set_option linter.unusedSimpArgs false

def encK (k:Nat) (hk:0 < k):Enc (Nat->Nat):={ sz:=k,enc:=fun f=>(List.range k).map fun j=>.int .u8 (f j:Int),len:=fun _=>by simp,one:=fun _ u hu=>by simp at hu;obtain ⟨_,_,rfl⟩:=hu;rfl,pos:=hk }
theorem cellK (k:Nat) (hk:0 < k) (l:List (Nat->Nat)) (i:Nat) (h:i < l.length) (j:Nat) (hj:j < k):Zbm (pRow (encK k hk) l) (pI (i:Int)) k j=some (pU (l[i] j:Int)):=by
 rw [Zav (encK k hk) l i .i64 k j rfl h,Zbf (encK k hk) l i j l[i] (List.getElem?_eq_getElem h) hj]
 simp [encK,hj]
theorem gridK {k:Nat} (hk:0 < k) {w:World} {v:Value} {len:Nat} {Z:Nat->Nat->Int} (h:IsGrid k w v len Z):∃ l:List (Nat->Nat),(∀ f ∈ l,∀ j,f j < 256)/\Reads w (pRow (encK k hk) l) v:=by
 obtain ⟨a,cap,rfl,h1,h2,h3⟩:=h
 by_cases h0:0 < len
 ·obtain ⟨b,off,rfl,hc⟩:=h3 h0
  refine ⟨(List.range len).map fun i j=>if j < k then (Z i j).toNat else 0,?_,(Zg2 (encK k hk)).2 ⟨_,cap,by simp,by simpa using h1,h2,fun _=>⟨b,off,rfl,?_,?_⟩⟩⟩
  ·intro f hf j
   obtain ⟨i,hi,rfl⟩:=List.mem_map.1 hf
   have hi:=List.mem_range.1 hi
   simp only
   split
   ·rename_i hj
    have:=(hc i hi j hj).2
    omega
   ·omega
  ·exact World.block_lt_of_cell? w ⟨b,off+0 * k+0,none⟩ (hc 0 h0 0 hk).1
  ·intro q u hq
   have hql:q < len * k:=by
    have:=(List.getElem?_eq_some_iff.1 hq).1
    rw [Enc.all_length] at this
    simpa [encK] using this
   have hi:q / k < len:=Nat.div_lt_of_lt_mul (by rw [Nat.mul_comm];exact hql)
   have hm:q % k < k:=Nat.mod_lt _ hk
   have hx:((List.range len).map fun i j=>if j < k then (Z i j).toNat else 0)[q / k]?=some (fun j=>if j < k then (Z (q / k) j).toNat else 0):=by simp [hi]
   have:=(encK k hk).all_get _ (q / k) (q % k) _ hx hm
   have hqe:q / k * k+q % k=q:=by rw [Nat.mul_comm];exact Nat.div_add_mod q k
   rw [show q / k * (encK k hk).sz+q % k=q by show q / k * k+q % k=q;exact hqe,hq] at this
   obtain ⟨k1,k2,k3⟩:=hc (q / k) hi (q % k) hm
   rw [show off+q=off+q / k * k+q % k by omega,k1,this]
   simp [encK,hm]
   all_goals omega
 ·obtain rfl:len=0:=by omega
  exact ⟨[],by simp,(Zg2 (encK k hk)).2 ⟨a,cap,rfl,by simp,h2,fun h=>absurd h (by simp)⟩⟩
theorem reads_len {α:Type} {E:Enc α} {w:World} {l:List α} {v:Value} (h:Reads w (pRow E l) v):l.length<=9223372036854775807:=by
 have h':=h
 simp only [pRow,Reads] at h'
 obtain ⟨a,cap,rfl,h1,h2,_⟩:=h'
 exact Nat.le_trans h1 (Zd9 h2)
end Go.Proofs.Ytgdegpifjljnoaa.grd
end
