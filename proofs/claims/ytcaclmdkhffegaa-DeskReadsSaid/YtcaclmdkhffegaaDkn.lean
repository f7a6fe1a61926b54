/- The desk: whoever waits first is let when the term has gone by; what is given back goes to all, in their order; readers beside one another. Reckoning, no program. -/
import Derived.Test.YtcaclmdkhffegaaDkm
namespace Go.Proofs.Ytcaclmdkhffegaa.dkn
open Go Go.RowKit eng lem lea leb lgw lgr lec lam wlm dkm
set_option linter.unusedVariables false
set_option linter.unusedSimpArgs false


structure Rd (d:Desk) (t:Int):Prop where
 di:DI d t
 none:d.2=[]
 one:∀ x ∈ d.1,x.2.2.1=1
theorem rd_nil:Rd ([],[]) 0:=⟨di_nil 0,rfl,by simp⟩
theorem rd_ask {d:Desk} {t s:Int} {w:LeM} (h:Rd d t) (hs:t<=s) (hw:okW w) (hm:w.2.2.2=1) (h0:0<=s) (h1:s<=1000000) :
  (askD s d w).2=(true,[],0)/\Rd (askD s d w).1 s/\Zfa (askD s d w).1.1 (s+59) w.1 w.2.2.1=1/\Zfa (askD s d w).1.1 (s+60) w.1 w.2.2.1=0:=by
 have hd:=di_prune h.di hs
 have hone:∀ x ∈ (Zbu s d).1,x.2.2.1=1:=fun x hx=>h.one x (List.mem_filter.1 hx).1
 have hfree:freeD s (Zbu s d) w=true:=by
  have e1:Zem (Zbu s d) s w=[]:=by
   simp only [Zem,Zbk,List.map_eq_nil_iff,List.filter_eq_nil_iff]
   intro x hx
   have:=hone x hx
   simp only [isC,barsL,heldL,hm]
   split <;> simp [this]
  have e2:(Zbu s d).2=[]:=h.none
  simp [freeD,e1,e2,Zdy]
 have hI:=di_lends hd hw h0 h1 hfree
 have hall:∀ z ∈ Zbb (Zbu s d).1 (Zb2 s w),z.2.2.1=1:=fun z hz=>by
  rcases Zdu hd.al.may hz with hz | rfl | ⟨y,hy,_,_,rfl⟩
  ·exact hone z hz
  ·exact hm
  ·show max _ _=_
   rw [hone y hy]
   show max 1 w.2.2.2=1
   rw [hm];rfl
 have ha:askD s d w=(Zhs s (Zbu s d) w,true,[],0):=by unfold askD;rw [if_pos hfree]
 rw [ha]
 obtain ⟨z,hz,g1,g2,g3,g4⟩:=grant_has (x:=Zb2 s w) hd.al.may
 have gt:=hI.til z hz
 have hu:z.2.2.2=s+60:=by
  have:(Zb2 s w).2.2.2=s+60:=rfl
  omega
 have hh:=fun t=>holds_of hI.al.may hz t
 rw [g1,g2] at hh
 refine ⟨rfl,⟨hI,by show dropW d.2 w.1=[];rw [h.none];rfl,hall⟩,?_,?_⟩
 ·have:=hh (s+59)
  rw [if_neg (by omega),hall z hz] at this
  exact this
 ·have:=hh (s+60)
  rw [if_pos (by omega)] at this
  exact this

end Go.Proofs.Ytcaclmdkhffegaa.dkn
