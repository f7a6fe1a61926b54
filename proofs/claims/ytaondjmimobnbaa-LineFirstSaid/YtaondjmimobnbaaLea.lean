/- Leases: package lease's order, found, Holds, told. -/
import Derived.Test.YtaondjmimobnbaaSymB
import Derived.Test.YtaondjmimobnbaaLem
namespace Go.Proofs.Ytaondjmimobnbaa.lea
open Go Go.RowKit eng SX Fact fil lem
set_option linter.unusedVariables false
set_option linter.unusedSimpArgs false
set_option maxRecDepth 1000000

def ECmp (k:Nat):FnE:={ k:=k,ins:=[none,none],leaks:=[false,false],outs:=[none],kinds:=[.num] }
def EOrd (k:Nat):FnE:={ k:=k,ins:=[some 4,some 4],leaks:=List.replicate 8 false,outs:=[none],kinds:=[.num] }
def EFo (k:Nat):FnE:={ k:=k,ins:=[none,none,none],leaks:=[false,false,false],outs:=[some 4],kinds:=[.num,.num,.num,.num] }
def EHo (k:Nat):FnE:={ k:=k,ins:=[none,none,none,none],leaks:=[false,false,false,false],outs:=[none],kinds:=[.num] }
def EMust (k:Nat):FnE:={ k:=k,ins:=[none],leaks:=[false],outs:=[],kinds:=[] }
def EMustL (k:Nat):FnE:={ k:=k,ins:=[some 4],leaks:=[false,false,false,false],outs:=[],kinds:=[] }
def EMayL (k:Nat):FnE:={ k:=k,ins:=[none],leaks:=[false],outs:=[none],kinds:=[.num] }
theorem Zbx:∀ xs ys:List LeM,encL.all xs=encL.all ys->xs=ys
 | [],[],_=>rfl
 | [],_ :: _,h=>by simp [Enc.all,encL] at h
 | _ :: _,[],h=>by simp [Enc.all,encL] at h
 | x :: xs,y :: ys,h=>by
  rw [Enc.all_cons,Enc.all_cons] at h
  obtain ⟨h1,h2⟩:=List.append_inj h (by rw [encL.len,encL.len])
  simp only [encL,List.cons.injEq,Value.int.injEq,true_and,and_true] at h1
  rw [Prod.ext h1.1 (Prod.ext h1.2.1 (Prod.ext h1.2.2.1 h1.2.2.2)),Zbx xs ys h2]
theorem cellL (l:List LeM) (i:Nat) (h:i < l.length):Zc0 (pRow encL l) (pI (i:Int)) 4 0=some (pI l[i].1)/\Zc0 (pRow encL l) (pI (i:Int)) 4 1=some (pI l[i].2.1)/\Zc0 (pRow encL l) (pI (i:Int)) 4 2=some (pI l[i].2.2.1)/\Zc0 (pRow encL l) (pI (i:Int)) 4 3=some (pI l[i].2.2.2):=by
 have h2:l[i]?=some l[i]:=List.getElem?_eq_getElem h
 refine ⟨?_,?_,?_,?_⟩
 ·rw [Zc9 encL l i .i64 4 0 rfl h,Zfe encL l i 0 _ h2 (by decide)];rfl
 ·rw [Zc9 encL l i .i64 4 1 rfl h,Zfe encL l i 1 _ h2 (by decide)];rfl
 ·rw [Zc9 encL l i .i64 4 2 rfl h,Zfe encL l i 2 _ h2 (by decide)];rfl
 ·rw [Zc9 encL l i .i64 4 3 rfl h,Zfe encL l i 3 _ h2 (by decide)];rfl
@[simp] theorem kCmp (k:Nat):(ECmp k).k=k:=rfl
@[simp] theorem kOrd (k:Nat):(EOrd k).k=k:=rfl
@[simp] theorem kFo (k:Nat):(EFo k).k=k:=rfl
@[simp] theorem kHo (k:Nat):(EHo k).k=k:=rfl
@[simp] theorem kMust (k:Nat):(EMust k).k=k:=rfl
@[simp] theorem kMustL (k:Nat):(EMustL k).k=k:=rfl
@[simp] theorem kMayL (k:Nat):(EMayL k).k=k:=rfl
def p4 (x:LeM):List PV:=[pI x.1,pI x.2.1,pI x.2.2.1,pI x.2.2.2]
theorem Zke {x y:LeM} (h:p4 x=p4 y):x=y:=by
 obtain ⟨a,b,c,d⟩:=x
 obtain ⟨a',b',c',d'⟩:=y
 simp only [p4,List.cons.injEq,PV.v.injEq,Value.int.injEq,true_and,and_true] at h
 obtain ⟨rfl,rfl,rfl,rfl⟩:=h;rfl
theorem find_hit {p:LeM->Bool} {l:List LeM} {i:Nat} (h:i < l.length) (hp:p l[i]=true) (hb:∀ j (hj:j < l.length),j < i->p l[j]=false):l.find? p=some l[i]:=by
 rw [List.find?_eq_some_iff_getElem]
 exact ⟨hp,i,h,rfl,fun j hj=>by simp [hb j (by omega) hj]⟩
theorem find_miss {p:LeM->Bool} {l:List LeM} (hb:∀ j (hj:j < l.length),p l[j]=false):l.find? p=none:=by
 rw [List.find?_eq_none]
 intro x hx
 obtain ⟨j,hj,rfl⟩:=List.getElem_of_mem hx
 simp [hb j hj]
end Go.Proofs.Ytaondjmimobnbaa.lea
