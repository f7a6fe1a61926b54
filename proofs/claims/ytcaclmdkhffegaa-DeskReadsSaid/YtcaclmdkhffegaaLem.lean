/- Leases as four numbers: how a row of them lies, and the document's reckoning on them; no program. -/
import Derived.Test.YtcaclmdkhffegaaRowE
namespace Go.Proofs.Ytcaclmdkhffegaa.lem
open Go.RowKit
abbrev LeM:=Int × Int × Int × Int
def encL:Enc LeM:={ sz:=4,enc:=fun m=>[.int .i64 m.1,.int .i64 m.2.1,.int .i64 m.2.2.1,.int .i64 m.2.2.2],len:=fun _=>rfl,one:=fun _ u hu=>by simp at hu;rcases hu with rfl | rfl | rfl | rfl <;> rfl,pos:=by decide }
def lv (m:LeM):Value:=.agg #[.int .i64 m.1,.int .i64 m.2.1,.int .i64 m.2.2.1,.int .i64 m.2.2.2]
def idx (p:LeM->Bool) (l:List LeM):Int:=match l.findIdx? p with | some i=>(i:Int) | none=>-1
theorem idx_hit {p:LeM->Bool} {l:List LeM} {k:Nat} {x:LeM} (hx:l[k]?=some x) (h:p x=true) (hno:∀ (j:Nat) (y:LeM),j < k->l[j]?=some y->p y=false):idx p l=(k:Int):=by
 have:l.findIdx? p=some k:=by
  rw [List.findIdx?_eq_some_iff_getElem]
  obtain ⟨hk,rfl⟩:=List.getElem?_eq_some_iff.1 hx
  exact ⟨hk,h,fun j hj=>by simpa using hno j _ hj (List.getElem?_eq_getElem (by omega))⟩
 simp [idx,this]
theorem idx_miss {p:LeM->Bool} {l:List LeM} (hno:∀ (j:Nat) (y:LeM),l[j]?=some y->p y=false):idx p l=-1:=by
 have:l.findIdx? p=none:=by
  rw [List.findIdx?_eq_none_iff]
  intro x hx
  obtain ⟨j,hj⟩:=List.mem_iff_getElem?.1 hx
  simpa using hno j x hj
 simp [idx,this]
end Go.Proofs.Ytcaclmdkhffegaa.lem
