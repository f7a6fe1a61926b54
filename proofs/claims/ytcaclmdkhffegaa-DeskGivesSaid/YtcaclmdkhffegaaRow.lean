/- Slices of one-cell values that are read, and slices of the call's own. -/
import Derived.Test.YtcaclmdkhffegaaAfter
import Derived.Laws.AppendOwn
import Derived.Laws.OwnMore
namespace Go.Proofs.Ytcaclmdkhffegaa
open Go.RowKit

def RowV (w:World) (v:Value) (xs:List Value):Prop :=
 ∃ a cap,v=.slice a xs.length cap/\xs.length<=cap/\cap<=maxLen/\(0 < xs.length->∃ b off,a=some ⟨b,off,none⟩ ∧
  ∀ i u,xs[i]?=some u->w.cell? ⟨b,off+i,none⟩=some u)

theorem RowV.ex {w w':World} {v:Value} {xs:List Value} (h:RowV w v xs) (g:Ex w w'):RowV w' v xs:=by
 obtain ⟨a,cap,e,h1,h2,h3⟩:=h
 refine ⟨a,cap,e,h1,h2,fun hp=>?_⟩
 obtain ⟨b,off,e',h4⟩:=h3 hp
 exact ⟨b,off,e',fun i u hu=>g.on (h4 i u hu)⟩

theorem RowV.len {w:World} {v:Value} {xs:List Value} (h:RowV w v xs):∃ a cap,v=.slice a xs.length cap/\xs.length<=cap/\cap<=maxLen:=by
 obtain ⟨a,cap,e,h1,h2,_⟩:=h
 exact ⟨a,cap,e,h1,h2⟩

theorem RowV.nil (w:World):RowV w (.slice none 0 0) []:=⟨none,0,rfl,Nat.le_refl _,Nat.zero_le _,fun h=>absurd h (Nat.lt_irrefl _)⟩

theorem RowV.at {w:World} {b off n cap:Nat} {xs:List Value} (h:RowV w (.slice (some ⟨b,off,none⟩) n cap) xs) {i:Nat} {u:Value} (hu:xs[i]?=some u):w.cell? ⟨b,off+i,none⟩=some u:=by
 obtain ⟨a',cap',e,_,_,h3⟩:=h
 simp only [Value.slice.injEq] at e
 obtain ⟨rfl,_,_⟩:=e
 obtain ⟨b',off',e',h4⟩:=h3 (by have:=(List.getElem?_eq_some_iff.1 hu).1;omega)
 cases e'
 exact h4 i u hu

theorem RowV.take {w:World} {a:Option Addr} {n cap:Nat} {xs:List Value} (h:RowV w (.slice a n cap) xs) (k:Nat) (hk:k<=n):RowV w (.slice a k cap) (xs.take k):=by
 obtain ⟨a',cap',e,h1,h2,h3⟩:=h
 cases e
 have hl:(xs.take k).length=k:=by rw [List.length_take];omega
 refine ⟨a,cap,by rw [hl],by omega,h2,fun hp=>?_⟩
 obtain ⟨b,off,e',h4⟩:=h3 (by omega)
 refine ⟨b,off,e',fun i u hu=>h4 i u ?_⟩
 rw [List.getElem?_take] at hu
 split at hu
 ·exact hu
 ·cases hu

theorem RowV.of_own {w:World} {base:Nat} {e:TypeId} {v:Value} {n:Nat} {xs:List Value} (h:w.ownsRow base e 1 v n xs):RowV w v xs/\xs.length=n:=by
 have hl:xs.length=n:=by have:=h.1;omega
 refine ⟨?_,hl⟩
 have hc:=@World.ownsRow.cells w base e 1 v n xs h
 rcases h.2 with ⟨rfl,h0⟩ | ⟨g,cap,cur,rfl,_,_,h2,h3,_,_⟩
 ·have:xs=[]:=List.eq_nil_of_length_eq_zero (by omega)
  subst this
  exact RowV.nil w
 ·refine ⟨_,cap,by rw [hl],by omega,h3,fun _=>⟨g,0,rfl,fun i u hu=>?_⟩⟩
  have:=hc (g:=g) rfl i u hu
  have hadd:(⟨g,0,none⟩:Addr).add i=⟨g,i,none⟩:=by unfold Addr.add;split <;> simp_all
  rw [hadd] at this
  simpa using this

theorem Ze3 {w w':World} {base:Nat} {e:TypeId} {size:Nat} {v:Value} {n:Nat} {xs:List Value} (h:w.ownsRow base e size v n xs) (g:Ex w w'):w'.ownsRow base e size v n xs:=by
 refine h.kept (row:=none) ⟨g.os,g.tape,g.output,g.size,fun k hk _=>g.block k hk⟩ ?_
 cases hv:v.ownBlock with
 | none=>exact .inl rfl
 | some k=>exact .inr (fun e=>by cases e)

def u8s (zs:List Nat):List Value:=zs.map fun (z:Nat)=>.int .u8 (z:Int)
def f64s (zs:List Nat):List Value:=zs.map fun (z:Nat)=>.float .f64 z
@[simp] theorem u8s_length (zs:List Nat):(u8s zs).length=zs.length:=by simp [u8s]
@[simp] theorem f64s_length (zs:List Nat):(f64s zs).length=zs.length:=by simp [f64s]

theorem RowV.made (w:World) (xs:List Value) (e:TypeId) (c:Nat) (h1:xs.length<=c) (h2:c<=maxLen):RowV (w.alloc (.cells xs.toArray e)) (.slice (some ⟨w.heap.size,0,none⟩) xs.length c) xs:=by
 refine ⟨_,c,rfl,h1,h2,fun _=>⟨w.heap.size,0,rfl,fun i u hu=>?_⟩⟩
 rw [World.cell?_alloc_at _ _ _ _ rfl]
 simpa using hu

theorem RowV.lit (w:World) (xs:List Value) (e:TypeId) (n:Nat) (h:xs.length=n) (h2:n<=maxLen):RowV (w.alloc (.cells xs.toArray e)) (.slice (some ⟨w.heap.size,0,none⟩) n n) xs:=by
 subst h;exact RowV.made w xs e _ (Nat.le_refl _) h2

section
variable {P : Program} (w : World)

theorem run_append_of_nil (base:Nat) (t ty e:TypeId) (i:TypeInfo) (size:Nat) (ht:P.underlying t=some (.slice e)) (hi:P.info? e=some i)
  (v:Value) (n:Nat) (xs:List Value) (hown:w.ownsRow base e size v n xs) (c:Nat):(Builtin.append_ #[t,t] ty #[v,.slice none 0 c]).run P w=.ok v w:=by
 rcases hown.2 with ⟨rfl,rfl⟩ | ⟨g,cap,cur,rfl,_,_,hnc,_⟩
 ·simp [Builtin.append_,run_underlying ht,sizeOf,typeInfo,hi,Builtin.lenOf,Builtin.firstCells]
 ·simp [Builtin.append_,run_underlying ht,sizeOf,typeInfo,hi,Builtin.lenOf,Builtin.firstCells,hnc,storeCells]



end

end Go.Proofs.Ytcaclmdkhffegaa
