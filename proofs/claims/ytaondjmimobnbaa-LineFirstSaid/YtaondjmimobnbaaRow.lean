/- Slices of one-cell values that are read, and slices of the call's own. -/
import Derived.Test.YtaondjmimobnbaaAfter
import Derived.Laws.AppendOwn
import Derived.Laws.OwnMore
namespace Go.Proofs.Ytaondjmimobnbaa
open Go.RowKit

def RowV (w:World) (v:Value) (xs:List Value):Prop :=
 ∃ a cap,v=.slice a xs.length cap/\xs.length<=cap/\cap<=maxLen/\(0 < xs.length->∃ b off,a=some ⟨b,off,none⟩ ∧
  ∀ i u,xs[i]?=some u->w.cell? ⟨b,off+i,none⟩=some u)

theorem RowV.at {w:World} {b off n cap:Nat} {xs:List Value} (h:RowV w (.slice (some ⟨b,off,none⟩) n cap) xs) {i:Nat} {u:Value} (hu:xs[i]?=some u):w.cell? ⟨b,off+i,none⟩=some u:=by
 obtain ⟨a',cap',e,_,_,h3⟩:=h
 simp only [Value.slice.injEq] at e
 obtain ⟨rfl,_,_⟩:=e
 obtain ⟨b',off',e',h4⟩:=h3 (by have:=(List.getElem?_eq_some_iff.1 hu).1;omega)
 cases e'
 exact h4 i u hu

theorem Zgs {w w':World} {base:Nat} {e:TypeId} {size:Nat} {v:Value} {n:Nat} {xs:List Value} (h:w.ownsRow base e size v n xs) (g:Ex w w'):w'.ownsRow base e size v n xs:=by
 refine h.kept (row:=none) ⟨g.os,g.tape,g.output,g.size,fun k hk _=>g.block k hk⟩ ?_
 cases hv:v.ownBlock with
 | none=>exact .inl rfl
 | some k=>exact .inr (fun e=>by cases e)

def u8s (zs:List Nat):List Value:=zs.map fun (z:Nat)=>.int .u8 (z:Int)
def f64s (zs:List Nat):List Value:=zs.map fun (z:Nat)=>.float .f64 z
@[simp] theorem u8s_length (zs:List Nat):(u8s zs).length=zs.length:=by simp [u8s]
@[simp] theorem f64s_length (zs:List Nat):(f64s zs).length=zs.length:=by simp [f64s]

section
variable {P : Program} (w : World)

theorem run_append_of_nil (base:Nat) (t ty e:TypeId) (i:TypeInfo) (size:Nat) (ht:P.underlying t=some (.slice e)) (hi:P.info? e=some i)
  (v:Value) (n:Nat) (xs:List Value) (hown:w.ownsRow base e size v n xs) (c:Nat):(Builtin.append_ #[t,t] ty #[v,.slice none 0 c]).run P w=.ok v w:=by
 rcases hown.2 with ⟨rfl,rfl⟩ | ⟨g,cap,cur,rfl,_,_,hnc,_⟩
 ·simp [Builtin.append_,run_underlying ht,sizeOf,typeInfo,hi,Builtin.lenOf,Builtin.firstCells]
 ·simp [Builtin.append_,run_underlying ht,sizeOf,typeInfo,hi,Builtin.lenOf,Builtin.firstCells,hnc,storeCells]



end

end Go.Proofs.Ytaondjmimobnbaa
