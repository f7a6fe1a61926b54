/- The desk: reckoning (who is let have what, the document's words on leases and on who waits); no program. -/
import Derived.Test.YtcaclmdkhffegaaLam
import Derived.Test.YtcaclmdkhffegaaWlm
namespace Go.Proofs.Ytcaclmdkhffegaa.dkm
open Go Go.RowKit eng lem lea leb lgw lgr lec lam wlm
set_option linter.unusedVariables false
set_option linter.unusedSimpArgs false
abbrev Desk:=List LeM × List LeM
def Zem (d:Desk) (t:Int) (w:LeM):List Int:=Zbk d.1 t w.1 w.2.2.1 w.2.2.2
def freeD (t:Int) (d:Desk) (w:LeM):Bool:=(Zem d t w).isEmpty && !Zdy d.2 w.1 w.2.2.1
def Zb2 (t:Int) (w:LeM):LeM:=(w.1,w.2.2.1,w.2.2.2,t+60)
def Zhs (t:Int) (d:Desk) (w:LeM):Desk:=(Zbb d.1 (Zb2 t w),dropW d.2 w.1)
def Zbu (t:Int) (d:Desk):Desk:=(Zb8 d.1 t,d.2)
def askD (t:Int) (d:Desk) (w:LeM):Desk × Bool × List Int × Int :=
 if freeD t (Zbu t d) w then (Zhs t (Zbu t d) w,true,[],0)
 else if (putD d.2 w).2 then ((Zb8 d.1 t,(putD d.2 w).1),false,Zem (Zbu t d) t w,0)
 else (Zbu t d,false,[],3)

def okW (w:LeM):Prop:=1<=w.1/\w.1<=3/\1<=w.2.2.1/\w.2.2.1<=6/\1<=w.2.2.2/\w.2.2.2<=2
structure DI (d:Desk) (t:Int):Prop where
 al:Al d.1 t
 til:∀ x ∈ d.1,x.2.2.2<=t+60
 len:d.1.length<=18
 u:U d.2
 w:∀ x ∈ d.2,okW x
 l4:d.2.length<=4
theorem di_nil (t:Int):DI ([],[]) t:=⟨al_nil t,by simp,by simp,u_nil,by simp,by simp⟩
theorem may_len {l:List LeM} (h:MayL l):l.length<=18:=by
 have hp:=(Zjp.1 h).2.2
 have hn:(l.map fun x=>(x.2.1,x.1)).Nodup:=by
  show List.Pairwise (· ≠ ·) _
  rw [List.pairwise_map]
  refine hp.imp fun {a b} hab he=>?_
  simp only [Prod.mk.injEq] at he
  rcases hab with h | h <;> omega
 have hs:(l.map fun x=>(x.2.1,x.1)) ⊆ (([1,2,3,4,5,6]:List Int).flatMap fun f=>([1,2,3]:List Int).map fun c=>(f,c)):=by
  intro p hp
  obtain ⟨x,hx,rfl⟩:=List.mem_map.1 hp
  obtain ⟨h1,h2,h3,h4,_⟩:=h.2.1 x hx
  have e1:x.1=1 \/ x.1=2 \/ x.1=3:=by omega
  have e2:x.2.1=1 \/ x.2.1=2 \/ x.2.1=3 \/ x.2.1=4 \/ x.2.1=5 \/ x.2.1=6:=by omega
  rcases e1 with e1 | e1 | e1 <;> rcases e2 with e2 | e2 | e2 | e2 | e2 | e2 <;> simp [e1,e2]
 have:=List.Nodup.length_le_of_subset hn hs
 simpa using this
theorem di_prune {d:Desk} {t s:Int} (h:DI d t) (hs:t<=s):DI (Zbu s d) s :=
 ⟨al_prune h.al s,fun x hx=>by have:=h.til x (List.mem_filter.1 hx).1;omega,Nat.le_trans (List.length_filter_le _ _) h.len,h.u,h.w,h.l4⟩
theorem ok_lease {t:Int} {w:LeM} (hw:okW w) (h0:0<=t) (h1:t<=1000000):okL (Zb2 t w):=by
 obtain ⟨a,b,c,d,e,f⟩:=hw
 exact ⟨a,b,c,d,e,f,by simp only [Zb2];omega,by simp only [Zb2];omega⟩
theorem free_clash {t:Int} {d:Desk} {w:LeM} (h:freeD t d w=true):Zem d t w=[]/\Zdy d.2 w.1 w.2.2.1=false:=by
 simpa [freeD] using h
theorem di_lends {d:Desk} {t:Int} (h:DI d t) {w:LeM} (hw:okW w) (h0:0<=t) (h1:t<=1000000) (hf:freeD t d w=true):DI (Zhs t d w) t:=by
 have hc:=(free_clash hf).1
 have ha:Al (Zbb d.1 (Zb2 t w)) t:=al_grant h.al (ok_lease hw h0 h1) (by have:=h.len;omega) (by show t < t+60;omega) hc
 refine ⟨ha,fun z hz=>?_,may_len ha.may,u_drop h.u w.1,fun x hx=>h.w x (List.mem_filter.1 hx).1,Nat.le_trans (Zhc _ _) h.l4⟩
 rcases Zdu h.al.may hz with hz | rfl | ⟨y,hy,_,_,rfl⟩
 ·exact h.til z hz
 ·exact Int.le_refl _
 ·have:=h.til y hy
  show max _ _<=_
  simp only [Zb2]
  omega

end Go.Proofs.Ytcaclmdkhffegaa.dkm
