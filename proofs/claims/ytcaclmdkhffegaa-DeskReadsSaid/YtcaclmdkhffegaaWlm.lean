/- Who waits: reckoning; no program. -/
import Derived.Test.YtcaclmdkhffegaaLem
namespace Go.Proofs.Ytcaclmdkhffegaa.wlm
open lem
def isW (c f:Int) (x:LeM):Bool:=x.1 == c && x.2.2.1 == f
def isFl (f:Int) (x:LeM):Bool:=x.2.2.1 == f
def dropW (l:List LeM) (c:Int):List LeM:=l.filter fun x=>!(x.1 == c)
def putL (l:List LeM) (x:LeM):Option (List LeM):=match l.findIdx? (isW x.1 x.2.2.1) with
 | some k=>some (dropW (l.take k) x.1++[x]++dropW (l.drop (k+1)) x.1)
 | none=>if (dropW l x.1).length < 4 then some (dropW l x.1++[x]) else none
def putB (l:List LeM) (x:LeM):List LeM × Bool:=match putL l x with | some r=>(r,true) | none=>(l,false)
def Zdy (l:List LeM) (c f:Int):Bool:=match l.find? (isFl f) with | some x=>!(x.1 == c) | none=>false
def putD (l:List LeM) (x:LeM):List LeM × Bool:=match l.findIdx? (isW x.1 x.2.2.1) with
 | some k=>(l.set k x,true)
 | none=>if (dropW l x.1).length < 4 then (dropW l x.1++[x],true) else (l,false)
theorem Zhc (l:List LeM) (c:Int):(dropW l c).length<=l.length:=List.length_filter_le _ _
def U (l:List LeM):Prop:=(l.map (·.1)).Nodup
theorem u_nil:U []:=List.nodup_nil
theorem u_drop {l:List LeM} (h:U l) (c:Int):U (dropW l c):=List.Nodup.sublist (List.Sublist.map _ List.filter_sublist) h
theorem drop_keep {l:List LeM} {c:Int} (h:∀ x ∈ l,x.1 ≠ c):dropW l c=l:=List.filter_eq_self.2 fun x hx=>by simpa using h x hx
theorem at_k {l:List LeM} {x:LeM} {k:Nat} (h:l.findIdx? (isW x.1 x.2.2.1)=some k):∃ hk:k < l.length,l[k].1=x.1/\l[k].2.2.1=x.2.2.1:=by
 obtain ⟨hk,hp,_⟩:=List.findIdx?_eq_some_iff_getElem.1 h
 simp only [isW,Bool.and_eq_true,beq_iff_eq] at hp
 exact ⟨hk,hp⟩
theorem put_eq {l:List LeM} (h:U l) (x:LeM):putB l x=putD l x:=by
 unfold putB putL putD
 cases hf:l.findIdx? (isW x.1 x.2.2.1) with
 | some k =>
  obtain ⟨hk,h1,_⟩:=at_k hf
  have hs:l=l.take k++l[k] :: l.drop (k+1):=by rw [List.getElem_cons_drop,List.take_append_drop]
  have hU:U (l.take k++l[k] :: l.drop (k+1)):=by rw [<- hs];exact h
  simp only [U,List.map_append,List.map_cons] at hU
  obtain ⟨_,h3,h4⟩:=List.nodup_append.1 hU
  have e1:dropW (l.take k) x.1=l.take k:=drop_keep fun y hy he=>h4 y.1 (List.mem_map_of_mem hy) l[k].1 (List.mem_cons_self ..) (by rw [he,h1])
  have e2:dropW (l.drop (k+1)) x.1=l.drop (k+1):=drop_keep fun y hy he=>(List.nodup_cons.1 h3).1 (by rw [h1,<- he];exact List.mem_map_of_mem hy)
  simp only [e1,e2,List.append_assoc,List.singleton_append]
  rw [List.set_eq_take_append_cons_drop,if_pos hk]
 | none =>
  simp only
  split
  ·rename_i r h1
   split at h1
   ·rename_i h4;cases h1;rw [if_pos h4]
   ·cases h1
  ·rename_i h1
   split at h1
   ·cases h1
   ·rename_i h4;rw [if_neg h4]
end Go.Proofs.Ytcaclmdkhffegaa.wlm
