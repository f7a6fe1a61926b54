/- Slices of one-cell values that are read, and slices of the call's own. -/
import Derived.Test.YtpnegheknjeljaaGreatAfter
import Derived.Laws.AppendOwn
import Derived.Laws.OwnMore
namespace Go.Proofs.YtpnegheknjeljaaGreat
open Go.RowKit

def RowV (w:World) (v:Value) (xs:List Value):Prop :=
 ∃ a cap,v=.slice a xs.length cap/\xs.length<=cap/\cap<=maxLen/\(0 < xs.length->∃ b off,a=some ⟨b,off,none⟩ ∧
  ∀ i u,xs[i]?=some u->w.cell? ⟨b,off+i,none⟩=some u)

theorem RowV.ex {w w':World} {v:Value} {xs:List Value} (h:RowV w v xs) (g:Ex w w'):RowV w' v xs:=by
 obtain ⟨a,cap,e,h1,h2,h3⟩:=h
 refine ⟨a,cap,e,h1,h2,fun hp=>?_⟩
 obtain ⟨b,off,e',h4⟩:=h3 hp
 exact ⟨b,off,e',fun i u hu=>g.on (h4 i u hu)⟩

theorem RowV.take {w:World} {a:Option Addr} {n cap:Nat} {xs:List Value} (h:RowV w (.slice a n cap) xs) (k:Nat) (hk:k<=n):RowV w (.slice a k cap) (xs.take k):=by
 obtain ⟨a',cap',e,h1,h2,h3⟩:=h
 cases e
 have hl:(xs.take k).length=k:=by rw [List.length_take];omega
 refine ⟨a,cap,by rw [hl],by omega,h2,fun hp=>?_⟩
 obtain ⟨b,off,e',h4⟩:=h3 (by omega)
 refine ⟨b,off,e',fun i u hu=>h4 i u ?_⟩
 rw [List.getElem?_take] at hu
 split at hu
 ·exact hu
 ·cases hu

theorem Zod {w w':World} {base:Nat} {e:TypeId} {size:Nat} {v:Value} {n:Nat} {xs:List Value} (h:w.ownsRow base e size v n xs) (g:Ex w w'):w'.ownsRow base e size v n xs:=by
 refine h.kept (row:=none) ⟨g.os,g.tape,g.output,g.size,fun k hk _=>g.block k hk⟩ ?_
 cases hv:v.ownBlock with
 | none=>exact .inl rfl
 | some k=>exact .inr (fun e=>by cases e)

def u8s (zs:List Nat):List Value:=zs.map fun (z:Nat)=>.int .u8 (z:Int)
def f64s (zs:List Nat):List Value:=zs.map fun (z:Nat)=>.float .f64 z
@[simp] theorem u8s_length (zs:List Nat):(u8s zs).length=zs.length:=by simp [u8s]
@[simp] theorem f64s_length (zs:List Nat):(f64s zs).length=zs.length:=by simp [f64s]

theorem RowV.made (w:World) (xs:List Value) (e:TypeId) (c:Nat) (h1:xs.length<=c) (h2:c<=maxLen):RowV (w.alloc (.cells xs.toArray e)) (.slice (some ⟨w.heap.size,0,none⟩) xs.length c) xs:=by
 refine ⟨_,c,rfl,h1,h2,fun _=>⟨w.heap.size,0,rfl,fun i u hu=>?_⟩⟩
 rw [World.cell?_alloc_at _ _ _ _ rfl]
 simpa using hu

theorem RowV.made1 (w:World) (x:Value) (e:TypeId):RowV (w.alloc (.cells #[x] e)) (.slice (some ⟨w.heap.size,0,none⟩) 1 1) [x]:=RowV.made w [x] e 1 (by simp) (by simp [maxLen])
section
variable {P : Program} (w : World)

theorem run_append_of_nil (base:Nat) (t ty e:TypeId) (i:TypeInfo) (size:Nat) (ht:P.underlying t=some (.slice e)) (hi:P.info? e=some i)
  (v:Value) (n:Nat) (xs:List Value) (hown:w.ownsRow base e size v n xs) (c:Nat):(Builtin.append_ #[t,t] ty #[v,.slice none 0 c]).run P w=.ok v w:=by
 rcases hown.2 with ⟨rfl,rfl⟩ | ⟨g,cap,cur,rfl,_,_,hnc,_⟩
 ·simp [Builtin.append_,run_underlying ht,sizeOf,typeInfo,hi,Builtin.lenOf,Builtin.firstCells]
 ·simp [Builtin.append_,run_underlying ht,sizeOf,typeInfo,hi,Builtin.lenOf,Builtin.firstCells,hnc,storeCells]

theorem run_append_row (base:Nat) (t ty e:TypeId) (i:TypeInfo) (z:Value) (bytes:Nat) (ht:P.underlying t=some (.slice e)) (hi:P.info? e=some i) (hz:i.zero=some z)
  (hsize:i.size=1) (hby:i.bytes=bytes) (hzs:z.cells.size=1)
  (v:Value) (n:Nat) (xs:List Value) (hown:w.ownsRow base e 1 v n xs)
  (v2:Value) (news:List Value) (hr:RowV w v2 news) (h1:∀ u ∈ news,u.oneCell'=true)
  (h63:n+news.length<=maxLen) (hbytes:(n+news.length) * bytes<=140737488355328) (hbase:base<=w.heap.size) :
  ∃ v' w',(Builtin.append_ #[t,t] ty #[v,v2]).run P w=.ok v' w'/\w'.ownsRow base e 1 v' (n+news.length) (xs++news)/\w.grownBy w' v.ownBlock:=by
 obtain ⟨A,c,rfl,g1,g2,g3⟩:=hr
 rcases A with _ | ad
 ·have hn:news=[]:=by
   rcases Nat.eq_zero_or_pos news.length with h0 | h0
   ·exact List.eq_nil_of_length_eq_zero h0
   ·obtain ⟨b,off,h,_⟩:=g3 h0
    cases h
  subst hn
  exact ⟨v,w,run_append_of_nil w base t ty e i 1 ht hi v n xs hown c,by simpa using hown,World.grownBy.refl w _⟩
 ·have hcells:∀ j u,news[j]?=some u->w.cell? (ad.add j)=some u:=by
   intro j u hu
   have h0:0 < news.length:=by
    have:=(List.getElem?_eq_some_iff.1 hu).1
    omega
   obtain ⟨b,off,h,hc⟩:=g3 h0
   cases h
   have hadd:(⟨b,off,none⟩:Addr).add j=⟨b,off+j,none⟩:=by unfold Addr.add;split <;> simp_all
   rw [hadd]
   exact hc j u hu
  obtain ⟨v',w',hrun,h2,h3,_⟩:=run_append_own (P:=P) w base t ty e i z 1 bytes ht hi hz hsize hby hzs (by omega) v n xs hown ad news.length c news (by omega) hcells h1 h63 hbytes hbase
  exact ⟨v',w',hrun,h2,h3⟩


end

end Go.Proofs.YtpnegheknjeljaaGreat
