/- Marks: the document's PutMark, told. -/
import Derived.Test.YtpnegheknjeljaaGreatSymD
namespace Go.Proofs.YtpnegheknjeljaaGreat.sta
open Go Go.RowKit eng SX Fact fil
set_option linter.unusedVariables false
set_option linter.unusedSimpArgs false
set_option maxRecDepth 1000000

def isApp:Op->Bool | .call { callee:=.builtin .append,.. }=>true | _=>false
def hApp (_:FuncId) (o:Oper):Option Hint:=cond (isApp o.op) (some .own) none
abbrev MarkM:=Int × Int × Int × Int
def encM:Enc MarkM:={ sz:=4,enc:=fun p=>[.int .i64 p.1,.int .i64 p.2.1,.int .i64 p.2.2.1,.int .i64 p.2.2.2],len:=fun _=>rfl,one:=fun _ u hu=>by simp at hu;rcases hu with rfl | rfl | rfl | rfl <;> rfl,pos:=by decide }
def EPutM (k:Nat):FnE:={ k:=k,ins:=[none,none,some 4],leaks:=[false,false,false,false,false,false],outs:=[none],kinds:=[.row] }
@[simp] def Zbm:SX:=.bin .sub (.var 1) (.con (.int .i64 1))
@[simp] def Zcf:SX:=rop ROp.cat [.lit 0 [],.var 0]
@[simp] def Zdg:SX:=.bin .geq (.var 1) (.con (.int .i64 1))
@[simp] def Ze0:SX:=.bin .leq (.var 1) (.len (.var 0))
@[simp] def Zi7:SX:=.bin .gtr (.var 2) (.cell (.var 0) Zbm 4 0)
@[simp] def Zi6:Fact:=same (.len (.lit 0 [])) (.len (.lit 0 []))
@[simp] def Zi5:Fact:=upto (.len Zcf) 4294967296
@[simp] def zGreatMkb8:SX:=rop (ROp.upd 4 0) [Zcf,Zbm,.var 2,.var 3,.var 4,.var 5]
@[simp] def Zlz:Fact:=same (.len Zcf) (.len Zcf)
theorem p0:runTo Tryz.prog fil.noOrc 10000 82 (EPutM 1) [.row,.num,.num,.num,.num,.num] [0] hApp=some ([.ok (.var 1),.ok (.var 2),.ok (.var 3),.ok (.var 4),.ok (.var 5),cells (.var 0) 4,Zi6,Zi5,.ok Zdg,.is Zdg (.bool false),Zlz],[Zcf]):=by kernel_rfl
theorem p10:runTo Tryz.prog fil.noOrc 10000 82 (EPutM 1) [.row,.num,.num,.num,.num,.num] [1,0] hApp=some ([.ok (.var 1),.ok (.var 2),.ok (.var 3),.ok (.var 4),.ok (.var 5),cells (.var 0) 4,Zi6,Zi5,.ok Zdg,.is Zdg (.bool true),.ok (.len (.var 0)),.ok Ze0,.is Ze0 (.bool false),Zlz],[Zcf]):=by kernel_rfl
theorem p110:runTo Tryz.prog fil.noOrc 10000 82 (EPutM 1) [.row,.num,.num,.num,.num,.num] [1,1,0] hApp=some ([.ok (.var 1),.ok (.var 2),.ok (.var 3),.ok (.var 4),.ok (.var 5),cells (.var 0) 4,Zi6,Zi5,.ok Zdg,.is Zdg (.bool true),.ok (.len (.var 0)),.ok Ze0,.is Ze0 (.bool true),.ok Zbm,.idx (.var 0) Zbm 4 4,.idx (.var 0) Zbm 4 1,.ok (.cell (.var 0) Zbm 4 0),.ok Zi7,.is Zi7 (.bool false),Zlz],[Zcf]):=by kernel_rfl
theorem p111:runTo Tryz.prog fil.noOrc 10000 82 (EPutM 1) [.row,.num,.num,.num,.num,.num] [1,1,1] hApp=some ([.ok (.var 1),.ok (.var 2),.ok (.var 3),.ok (.var 4),.ok (.var 5),cells (.var 0) 4,Zi6,Zi5,.ok Zdg,.is Zdg (.bool true),.ok (.len (.var 0)),.ok Ze0,.is Ze0 (.bool true),.ok Zbm,.idx (.var 0) Zbm 4 4,.idx (.var 0) Zbm 4 1,.ok (.cell (.var 0) Zbm 4 0),.ok Zi7,.is Zi7 (.bool true),.ok Zbm,rng Zbm (.len Zcf),.idx Zcf Zbm 4 4,same (.len Zcf) (.len zGreatMkb8)],[zGreatMkb8]):=by kernel_rfl

@[simp] theorem kPutM (k:Nat):(EPutM k).k=k:=rfl
theorem Zpa:∀ xs ys:List MarkM,encM.all xs=encM.all ys->xs=ys
 | [],[],_=>rfl
 | [],_ :: _,h=>by simp [Enc.all,encM] at h
 | _ :: _,[],h=>by simp [Enc.all,encM] at h
 | x :: xs,y :: ys,h=>by
  rw [Enc.all_cons,Enc.all_cons] at h
  obtain ⟨h1,h2⟩:=List.append_inj h (by rw [encM.len,encM.len])
  simp only [encM,List.cons.injEq,Value.int.injEq,true_and,and_true] at h1
  rw [Prod.ext h1.1 (Prod.ext h1.2.1 (Prod.ext h1.2.2.1 h1.2.2.2)),Zpa xs ys h2]
theorem cellM (l:List MarkM) (i:Nat) (h:i < l.length):Zc1 (pRow encM l) (pI (i:Int)) 4 0=some (pI l[i].1):=by
 rw [Zbe encM l i .i64 4 0 rfl h,Zco encM l i 0 _ (List.getElem?_eq_getElem h) (by decide)];rfl
def putMk (l:List MarkM) (c:Int) (m:MarkM):List MarkM:=if 1<=c/\c<=l.length/\(l.getD (c.toNat - 1) (0,0,0,0)).1 < m.1 then l.set (c.toNat - 1) m else l
def RPutM (ps qs:List PV):Prop:=∃ (l:List MarkM) (c:Int) (m:MarkM),l.length<=1000000/\-9223372036854775808<=c/\c<=9223372036854775807/\ps=[pRow encM l,pI c,pI m.1,pI m.2.1,pI m.2.2.1,pI m.2.2.2]/\qs=[pRow encM (putMk l c m)]
theorem fPutM:∀ ps q1 q2,RPutM ps q1->RPutM ps q2->q1=q2:=by
 rintro ps q1 q2 ⟨l,c,⟨a1,a2,a3,a4⟩,_,_,_,rfl,rfl⟩ ⟨l',c',⟨b1,b2,b3,b4⟩,_,_,_,h,rfl⟩
 simp only [List.cons.injEq,PV.v.injEq,Value.int.injEq,true_and,and_true] at h
 obtain ⟨h,rfl,rfl,rfl,rfl,rfl⟩:=h
 rw [fil.pRow_inj Zpa h]
theorem toldPutM (k:Nat):ToldF 82 (EPutM k) (spec RPutM):=by
 refine Zgh mixed_ok names_ok (fun _ _=>none) [.row,.num,.num,.num,.num,.num] ?_
 intro ps qs h _
 obtain ⟨l,c,⟨a1,a2,a3,a4⟩,hl,hc1,hc2,rfl,rfl⟩:=Zah h
 have cl:=Zmg encM l 4 rfl (by omega)
 have rc:=r_cat0 encM l
 by_cases d1:1<=c
 ·by_cases d2:c<=l.length
  ·obtain ⟨j,rfl⟩:∃ j:Nat,c=(j:Int)+1:=⟨c.toNat - 1,by omega⟩
   have hj:j < l.length:=by omega
   have hj1:((j:Int)+1).toNat - 1=j:=by omega
   have w1:IntKind.i64.wrap (j:Int)=(j:Int):=wrapI _ (by omega) (by omega)
   have i1:=Zbi encM l j 4 4 .i64 rfl hj (by decide)
   have i2:=Zbi encM l j 4 1 .i64 rfl hj (by decide)
   have cm:=cellM l j hj
   have hg:(l.getD j (0,0,0,0))=l[j]:=by simp [List.getD,hj]
   by_cases d3:l[j].1 < a1
   ·have hp:putMk l ((j:Int)+1) (a1,a2,a3,a4)=l.set j (a1,a2,a3,a4):=by rw [putMk,hj1,hg,if_pos ⟨d1,d2,d3⟩]
    have ru:ropPV (.upd 4 0) [pRow encM l,pI (j:Int),pI a1,pI a2,pI a3,pI a4]=some (pRow encM (l.set j (a1,a2,a3,a4))):=Zrh encM l j .i64 (a1,a2,a3,a4) hj
    have hls:(l.set j (a1,a2,a3,a4)).length=l.length:=by simp
    rw [hp]
    generalize l.set j (a1,a2,a3,a4)=l2 at *
    refine ⟨_,_,_,_,_,_,fil.noOrc_ok,p111,fun w FP=>?_,?_⟩
    ·simp [Zab,Zaa,Base.ev,SX.ev,evs,Value.oneCell',Zad,Zgk,binPV,cl,rc,w1,i1,i2,cm,ru,hj,d3]
     all_goals omega
    ·simp [evs,SX.ev,binPV,rc,w1,ru]
   ·have hp:putMk l ((j:Int)+1) (a1,a2,a3,a4)=l:=by rw [putMk,hj1,hg,if_neg (fun h=>d3 h.2.2)]
    rw [hp]
    refine ⟨_,_,_,_,_,_,fil.noOrc_ok,p110,fun w FP=>?_,?_⟩
    ·simp [Zab,Zaa,Base.ev,SX.ev,evs,Value.oneCell',Zad,Zgk,binPV,cl,rc,w1,i1,i2,cm,hj,d3]
     all_goals omega
    ·simp [evs,SX.ev,rc]
  ·have hp:putMk l c (a1,a2,a3,a4)=l:=by rw [putMk,if_neg (fun h=>d2 h.2.1)]
   rw [hp]
   refine ⟨_,_,_,_,_,_,fil.noOrc_ok,p10,fun w FP=>?_,?_⟩
   ·simp [Zab,Zaa,Base.ev,SX.ev,evs,Value.oneCell',Zad,Zgk,binPV,cl,rc]
    all_goals omega
   ·simp [evs,SX.ev,rc]
 ·have hp:putMk l c (a1,a2,a3,a4)=l:=by rw [putMk,if_neg (fun h=>d1 h.1)]
  rw [hp]
  refine ⟨_,_,_,_,_,_,fil.noOrc_ok,p0,fun w FP=>?_,?_⟩
  ·simp [Zab,Zaa,Base.ev,SX.ev,evs,Value.oneCell',Zad,Zgk,binPV,cl,rc]
   all_goals omega
  ·simp [evs,SX.ev,rc]

end Go.Proofs.YtpnegheknjeljaaGreat.sta
