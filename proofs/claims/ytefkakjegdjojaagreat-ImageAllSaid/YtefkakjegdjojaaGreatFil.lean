/- What is Zej into a file: file.All. -/
import Derived.Test.YtefkakjegdjojaaGreatMrg4
namespace Go.Proofs.YtefkakjegdjojaaGreat.fil
open Go Go.RowKit eng SX Fact
set_option linter.unusedVariables false
set_option linter.unusedSimpArgs false
set_option maxRecDepth 1000000

def encW:Enc (Int × ByteArray):={ sz:=2,enc:=fun p=>[.int .i64 p.1,.string p.2],len:=fun _=>rfl,one:=fun _ u hu=>by simp at hu;rcases hu with rfl | rfl <;> rfl,pos:=by decide }
def mayW (w:Int × ByteArray):Bool:=decide (1<=w.2.size) && decide (0<=w.1) && decide (w.1<=24 - (w.2.size:Int))
def grown (l:List UInt8) (n:Nat):List UInt8:=l++List.replicate (n - l.length) 0
def over (m x:List UInt8) (o:Nat):List UInt8:=m.take o++x++m.drop (o+x.length)
def putW (l:List UInt8) (w:Int × ByteArray):List UInt8:=cond (mayW w) (over (grown l (w.1.toNat+w.2.size)) w.2.data.toList w.1.toNat) l
def allW (l:List UInt8) (ws:List (Int × ByteArray)):List UInt8:=ws.foldl putW l
theorem putW_len (l:List UInt8) (w:Int × ByteArray):(putW l w).length<=max l.length 24:=by
 unfold putW
 cases h:mayW w with
 | false=>simp;omega
 | true =>
  simp only [mayW,Bool.and_eq_true,decide_eq_true_eq] at h
  have:w.2.data.toList.length=w.2.size:=by simp
  simp only [cond_true,over,grown,List.length_append,List.length_take,List.length_drop,List.length_replicate,this]
  all_goals omega
theorem Ztv:∀ (ws:List (Int × ByteArray)) (l:List UInt8),(allW l ws).length<=max l.length 24
 | [],l=>by simp [allW];omega
 | w :: ws,l=>by
  have h1:=putW_len l w
  have h2:=Ztv ws (putW l w)
  simp only [allW,List.foldl_cons] at h2 ⊢
  omega

def RAll (ps qs:List PV):Prop:=∃ (b:ByteArray) (ws:List (Int × ByteArray)),b.size<=1000/\ws.length<=1000/\(∀ w ∈ ws,-9223372036854775808<=w.1/\w.1<=9223372036854775807/\w.2.size<=1000000)/\ps=[pS b,pRow encW ws]/\qs=[pS ⟨(allW b.data.toList ws).toArray⟩]
def EAll (k:Nat):FnE:={ k:=k,ins:=[none,none],leaks:=[false,false],outs:=[none],kinds:=[.num] }
theorem Zvo:∀ xs ys:List (Int × ByteArray),encW.all xs=encW.all ys->xs=ys
 | [],[],_=>rfl
 | [],_ :: _,h=>by simp [Enc.all,encW] at h
 | _ :: _,[],h=>by simp [Enc.all,encW] at h
 | x :: xs,y :: ys,h=>by
  rw [Enc.all_cons,Enc.all_cons] at h
  obtain ⟨h1,h2⟩:=List.append_inj h (by rw [encW.len,encW.len])
  simp only [encW,List.cons.injEq,Value.int.injEq,Value.string.injEq,true_and,and_true] at h1
  rw [Prod.ext h1.1 h1.2,Zvo xs ys h2]
theorem fAll:∀ ps q1 q2,RAll ps q1->RAll ps q2->q1=q2:=by
 rintro ps q1 q2 ⟨b,ws,_,_,_,rfl,rfl⟩ ⟨b',ws',_,_,_,h,rfl⟩
 simp only [List.cons.injEq,PV.v.injEq,Value.string.injEq,and_true] at h
 obtain ⟨rfl,h⟩:=h
 rw [pRow_inj Zvo h]
theorem cellW (ws:List (Int × ByteArray)) (i:Nat) (h:i < ws.length) (j:Nat) (hj:j < 2):Zb8 (pRow encW ws) (pI (i:Int)) 2 j=((encW.enc ws[i])[j]?).map .v:=by
 rw [Zbb encW ws i .i64 2 j rfl h,Zce encW ws i j ws[i] (List.getElem?_eq_getElem h) hj]
end Go.Proofs.YtefkakjegdjojaaGreat.fil
