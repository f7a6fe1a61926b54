/- Slices of one-cell values that are read, and slices of the call's own. -/
import Derived.Test.YtgdegpifjljnoaaAfter
import Derived.Laws.AppendOwn
import Derived.Laws.OwnMore
namespace Go.Proofs.Ytgdegpifjljnoaa
open Go.RowKit

def RowV (w:World) (v:Value) (xs:List Value):Prop :=
 ∃ a cap,v=.slice a xs.length cap/\xs.length<=cap/\cap<=maxLen/\(0 < xs.length->∃ b off,a=some ⟨b,off,none⟩ ∧
  ∀ i u,xs[i]?=some u->w.cell? ⟨b,off+i,none⟩=some u)

theorem RowV.ex {w w':World} {v:Value} {xs:List Value} (h:RowV w v xs) (g:Ex w w'):RowV w' v xs:=by
 obtain ⟨a,cap,e,h1,h2,h3⟩:=h
 refine ⟨a,cap,e,h1,h2,fun hp=>?_⟩
 obtain ⟨b,off,e',h4⟩:=h3 hp
 exact ⟨b,off,e',fun i u hu=>g.on (h4 i u hu)⟩

theorem RowV.len {w:World} {v:Value} {xs:List Value} (h:RowV w v xs):∃ a cap,v=.slice a xs.length cap/\xs.length<=cap/\cap<=maxLen:=by
 obtain ⟨a,cap,e,h1,h2,_⟩:=h
 exact ⟨a,cap,e,h1,h2⟩

theorem RowV.nil (w:World):RowV w (.slice none 0 0) []:=⟨none,0,rfl,Nat.le_refl _,Nat.zero_le _,fun h=>absurd h (Nat.lt_irrefl _)⟩

theorem RowV.at {w:World} {b off n cap:Nat} {xs:List Value} (h:RowV w (.slice (some ⟨b,off,none⟩) n cap) xs) {i:Nat} {u:Value} (hu:xs[i]?=some u):w.cell? ⟨b,off+i,none⟩=some u:=by
 obtain ⟨a',cap',e,_,_,h3⟩:=h
 simp only [Value.slice.injEq] at e
 obtain ⟨rfl,_,_⟩:=e
 obtain ⟨b',off',e',h4⟩:=h3 (by have:=(List.getElem?_eq_some_iff.1 hu).1;omega)
 cases e'
 exact h4 i u hu

theorem RowV.take {w:World} {a:Option Addr} {n cap:Nat} {xs:List Value} (h:RowV w (.slice a n cap) xs) (k:Nat) (hk:k<=n):RowV w (.slice a k cap) (xs.take k):=by
 obtain ⟨a',cap',e,h1,h2,h3⟩:=h
 cases e
 have hl:(xs.take k).length=k:=by rw [List.length_take];omega
 refine ⟨a,cap,by rw [hl],by omega,h2,fun hp=>?_⟩
 obtain ⟨b,off,e',h4⟩:=h3 (by omega)
 refine ⟨b,off,e',fun i u hu=>h4 i u ?_⟩
 rw [List.getElem?_take] at hu
 split at hu
 ·exact hu
 ·cases hu



def u8s (zs:List Nat):List Value:=zs.map fun (z:Nat)=>.int .u8 (z:Int)
def f64s (zs:List Nat):List Value:=zs.map fun (z:Nat)=>.float .f64 z
@[simp] theorem u8s_length (zs:List Nat):(u8s zs).length=zs.length:=by simp [u8s]
@[simp] theorem f64s_length (zs:List Nat):(f64s zs).length=zs.length:=by simp [f64s]

theorem RowV.made (w:World) (xs:List Value) (e:TypeId) (c:Nat) (h1:xs.length<=c) (h2:c<=maxLen):RowV (w.alloc (.cells xs.toArray e)) (.slice (some ⟨w.heap.size,0,none⟩) xs.length c) xs:=by
 refine ⟨_,c,rfl,h1,h2,fun _=>⟨w.heap.size,0,rfl,fun i u hu=>?_⟩⟩
 rw [World.cell?_alloc_at _ _ _ _ rfl]
 simpa using hu

theorem RowV.lit (w:World) (xs:List Value) (e:TypeId) (n:Nat) (h:xs.length=n) (h2:n<=maxLen):RowV (w.alloc (.cells xs.toArray e)) (.slice (some ⟨w.heap.size,0,none⟩) n n) xs:=by
 subst h;exact RowV.made w xs e _ (Nat.le_refl _) h2

section
variable {P : Program} (w : World)




end

end Go.Proofs.Ytgdegpifjljnoaa
