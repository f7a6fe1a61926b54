/- Who waits: reckoning; no program. -/
import Derived.Test.YtcaclmdkhffegaaLem
namespace Go.Proofs.Ytcaclmdkhffegaa.wlm
open lem
def isW (c f:Int) (x:LeM):Bool:=x.1 == c && x.2.2.1 == f
def isFl (f:Int) (x:LeM):Bool:=x.2.2.1 == f
def dropW (l:List LeM) (c:Int):List LeM:=l.filter fun x=>!(x.1 == c)
def putL (l:List LeM) (x:LeM):Option (List LeM):=match l.findIdx? (isW x.1 x.2.2.1) with
 | some k=>some (dropW (l.take k) x.1++[x]++dropW (l.drop (k+1)) x.1)
 | none=>if (dropW l x.1).length < 4 then some (dropW l x.1++[x]) else none
def putB (l:List LeM) (x:LeM):List LeM × Bool:=match putL l x with | some r=>(r,true) | none=>(l,false)
def Zhm (l:List LeM) (c f:Int):Bool:=match l.find? (isFl f) with | some x=>!(x.1 == c) | none=>false
theorem Zit (l:List LeM) (c:Int):(dropW l c).length<=l.length:=List.length_filter_le _ _
end Go.Proofs.Ytcaclmdkhffegaa.wlm
