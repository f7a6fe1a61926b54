/- Who waits: reckoning; no program. -/
import Derived.Test.YtaondjmimobnbaaLem
namespace Go.Proofs.Ytaondjmimobnbaa.wlm
open lem
def isW (c f:Int) (x:LeM):Bool:=x.1 == c && x.2.2.1 == f
def isFl (f:Int) (x:LeM):Bool:=x.2.2.1 == f
def dropW (l:List LeM) (c:Int):List LeM:=l.filter fun x=>!(x.1 == c)
def putL (l:List LeM) (x:LeM):Option (List LeM):=match l.findIdx? (isW x.1 x.2.2.1) with
 | some k=>some (dropW (l.take k) x.1++[x]++dropW (l.drop (k+1)) x.1)
 | none=>if (dropW l x.1).length < 4 then some (dropW l x.1++[x]) else none
def putB (l:List LeM) (x:LeM):List LeM × Bool:=match putL l x with | some r=>(r,true) | none=>(l,false)
def Zgd (l:List LeM) (c f:Int):Bool:=match l.find? (isFl f) with | some x=>!(x.1 == c) | none=>false
theorem drop_step {l:List LeM} {i:Nat} (h:i < l.length) (c:Int):dropW (l.take (i+1)) c=dropW (l.take i) c++(if l[i].1=c then [] else [l[i]]):=by
 rw [dropW,List.take_add_one,List.getElem?_eq_getElem h,List.filter_append]
 simp only [Option.toList_some,List.filter_cons,List.filter_nil,dropW]
 by_cases h1:l[i].1=c <;> simp [h1]
theorem drop_split (l:List LeM) (i:Nat) (c:Int):dropW l c=dropW (l.take i) c++dropW (l.drop i) c:=by
 rw [dropW,dropW,dropW,<- List.filter_append,List.take_append_drop]
theorem drop_at {l:List LeM} {i:Nat} (h:i < l.length) {c:Int} (hc:l[i].1 ≠ c):∃ h2:(dropW (l.take i) c).length < (dropW l c).length,(dropW l c)[(dropW (l.take i) c).length]=l[i]:=by
 have h1:dropW l c=(dropW (l.take i) c++[l[i]])++dropW (l.drop (i+1)) c:=by
  rw [drop_split l (i+1) c,drop_step h c,if_neg hc]
 have h3:(dropW l c)[(dropW (l.take i) c).length]?=some l[i]:=by
  rw [h1,List.append_assoc,List.getElem?_append_right (Nat.le_refl _)]
  simp
 obtain ⟨h4,h5⟩:=List.getElem?_eq_some_iff.1 h3
 exact ⟨h4,h5⟩
theorem drop_twice (l:List LeM) (c:Int):dropW (dropW l c) c=dropW l c:=by
 simp [dropW,List.filter_filter]
theorem Zdy (l:List LeM) (c:Int):(dropW l c).length<=l.length:=List.length_filter_le _ _
theorem put_len {l:List LeM} (x:LeM) (h:l.length<=4):(putB l x).1.length<=4:=by
 unfold putB putL
 cases hf:l.findIdx? (isW x.1 x.2.2.1) with
 | some k =>
  obtain ⟨hk,_⟩:=List.findIdx?_eq_some_iff_getElem.1 hf
  have h1:=Zdy (l.take k) x.1
  have h2:=Zdy (l.drop (k+1)) x.1
  rw [List.length_take] at h1
  rw [List.length_drop] at h2
  simp only [List.length_append,List.length_cons,List.length_nil]
  omega
 | none =>
  simp only
  split
  ·rename_i r h1
   split at h1
   ·cases h1
    simp only [List.length_append,List.length_cons,List.length_nil]
    omega
   ·cases h1
  ·exact h
end Go.Proofs.Ytaondjmimobnbaa.wlm
