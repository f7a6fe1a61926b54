/- Slices of arrays of bytes, of any length, as rows. -/
import Derived.Test.YtcaclmdkhffegaaSymB
import Derived.Test.YtcaclmdkhffegaaFrame
namespace Go.Proofs.Ytcaclmdkhffegaa.grd
open Go Go.RowKit eng
set_option linter.unusedVariables false
set_option linter.unusedSimpArgs false

def encK (k:Nat) (hk:0 < k):Enc (Nat->Nat):={ sz:=k,enc:=fun f=>(List.range k).map fun j=>.int .u8 (f j:Int),len:=fun _=>by simp,one:=fun _ u hu=>by simp at hu;obtain ⟨_,_,rfl⟩:=hu;rfl,pos:=hk }
theorem cellK (k:Nat) (hk:0 < k) (l:List (Nat->Nat)) (i:Nat) (h:i < l.length) (j:Nat) (hj:j < k):Zdl (pRow (encK k hk) l) (pI (i:Int)) k j=some (pU (l[i] j:Int)):=by
 rw [Zdw (encK k hk) l i .i64 k j rfl h,Zf9 (encK k hk) l i j l[i] (List.getElem?_eq_getElem h) hj]
 simp [encK,hj]
theorem gridK {k:Nat} (hk:0 < k) {w:World} {v:Value} {len:Nat} {Z:Nat->Nat->Int} (h:IsGrid k w v len Z):∃ l:List (Nat->Nat),(∀ f ∈ l,∀ j,f j < 256)/\Reads w (pRow (encK k hk) l) v:=by
 obtain ⟨a,cap,rfl,h1,h2,h3⟩:=h
 by_cases h0:0 < len
 ·obtain ⟨b,off,rfl,hc⟩:=h3 h0
  refine ⟨(List.range len).map fun i j=>if j < k then (Z i j).toNat else 0,?_,(Zfu (encK k hk)).2 ⟨_,cap,by simp,by simpa using h1,h2,fun _=>⟨b,off,rfl,?_,?_⟩⟩⟩
  ·intro f hf j
   obtain ⟨i,hi,rfl⟩:=List.mem_map.1 hf
   have hi:=List.mem_range.1 hi
   simp only
   split
   ·rename_i hj
    have:=(hc i hi j hj).2
    omega
   ·omega
  ·exact World.block_lt_of_cell? w ⟨b,off+0 * k+0,none⟩ (hc 0 h0 0 hk).1
  ·intro q u hq
   have hql:q < len * k:=by
    have:=(List.getElem?_eq_some_iff.1 hq).1
    rw [Enc.all_length] at this
    simpa [encK] using this
   have hi:q / k < len:=Nat.div_lt_of_lt_mul (by rw [Nat.mul_comm];exact hql)
   have hm:q % k < k:=Nat.mod_lt _ hk
   have hx:((List.range len).map fun i j=>if j < k then (Z i j).toNat else 0)[q / k]?=some (fun j=>if j < k then (Z (q / k) j).toNat else 0):=by simp [hi]
   have:=(encK k hk).all_get _ (q / k) (q % k) _ hx hm
   have hqe:q / k * k+q % k=q:=by rw [Nat.mul_comm];exact Nat.div_add_mod q k
   rw [show q / k * (encK k hk).sz+q % k=q by show q / k * k+q % k=q;exact hqe,hq] at this
   obtain ⟨k1,k2,k3⟩:=hc (q / k) hi (q % k) hm
   rw [show off+q=off+q / k * k+q % k by omega,k1,this]
   simp [encK,hm]
   all_goals omega
 ·obtain rfl:len=0:=by omega
  exact ⟨[],by simp,(Zfu (encK k hk)).2 ⟨a,cap,rfl,by simp,h2,fun h=>absurd h (by simp)⟩⟩
theorem reads_len {α:Type} {E:Enc α} {w:World} {l:List α} {v:Value} (h:Reads w (pRow E l) v):l.length<=9223372036854775807:=by
 have h':=h
 simp only [pRow,Reads] at h'
 obtain ⟨a,cap,rfl,h1,h2,_⟩:=h'
 exact Nat.le_trans h1 (Zfx h2)
end Go.Proofs.Ytcaclmdkhffegaa.grd
