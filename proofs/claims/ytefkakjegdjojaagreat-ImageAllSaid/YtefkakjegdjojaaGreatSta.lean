/- What lasts: marks, and what is done with them (the document's Zeo). -/
import Derived.Test.YtefkakjegdjojaaGreatDir2
import Derived.Test.YtefkakjegdjojaaGreatMay
import Derived.Test.YtefkakjegdjojaaGreatRal
import Derived.Test.YtefkakjegdjojaaGreatMkb
namespace Go.Proofs.YtefkakjegdjojaaGreat.sta
open Go Go.RowKit eng SX Fact fil fileFronts dirs pck may
open fileFronts
open pck hiding F F20 F21
open dirs hiding shR shRl shRR flR lpR cutR f0 f1 f2 f3
open may hiding r1 r2 r3 r4 r5
set_option linter.unusedVariables false
set_option linter.unusedSimpArgs false
set_option maxRecDepth 1000000

def Zg0 (k:Nat):FnE:={ k:=k,ins:=[some 3,none,some 4,none,some 3],leaks:=[],outs:=[some 3,some 4],kinds:=[.row,.row,.num,.num,.num,.num,.num] }
def tabM (f:FuncId):Option FnE:=cond (Nat.beq f 78) (some (EPutM 1)) none
@[simp] def Zfe:SX:=rop ROp.cat [.lit 0 [],.var 0]
@[simp] def Zov:SX:=.bin .sub (.var 8) (.con (.int .i64 1))
@[simp] def Zou:List SX:=[.var 1,.var 3,.var 4,.var 5,.var 6,.var 7]
@[simp] def Zot:SX:=.bin .gtr (.var 8) (.con (.int .i64 0))
@[simp] def zGreatSta5:SX:=rop (ROp.upd 3 0) [Zfe,Zov,.var 9,.var 10,.var 11]
theorem k0:runTo Tryz.prog (orcFn tabM) 10000 32 (Zg0 2) [.row,.row,.num,.num,.num,.num,.num,.num,.num,.num,.num,.num] [0] hApp=some ([.ok (.var 2),.ok (.var 3),.ok (.var 4),.ok (.var 5),.ok (.var 6),.ok (.var 7),.ok (.var 8),.ok (.var 9),.ok (.var 10),.ok (.var 11),.fn 78 (EPutM 1) Zou,cells (.var 0) 3,same (.len (.lit 0 [])) (.len (.lit 0 [])),upto (.len Zfe) 4294967296,.ok Zot,.is Zot (.bool false),same (.len Zfe) (.len Zfe)],[Zfe,.fn 1 Zou 0,.var 2,.var 4,.var 5,.var 6,.var 7]):=by kernel_rfl
theorem k1:runTo Tryz.prog (orcFn tabM) 10000 32 (Zg0 2) [.row,.row,.num,.num,.num,.num,.num,.num,.num,.num,.num,.num] [1] hApp=some ([.ok (.var 2),.ok (.var 3),.ok (.var 4),.ok (.var 5),.ok (.var 6),.ok (.var 7),.ok (.var 8),.ok (.var 9),.ok (.var 10),.ok (.var 11),.fn 78 (EPutM 1) Zou,cells (.var 0) 3,same (.len (.lit 0 [])) (.len (.lit 0 [])),upto (.len Zfe) 4294967296,.ok Zot,.is Zot (.bool true),.ok Zov,rng Zov (.len Zfe),.idx Zfe Zov 3 3,same (.len Zfe) (.len zGreatSta5)],[zGreatSta5,.fn 1 Zou 0,.var 2,.var 4,.var 5,.var 6,.var 7]):=by kernel_rfl
@[simp] theorem kMarked (k:Nat):(Zg0 k).k=k:=rfl

structure StM where
 files:List FileM
 marks:List MarkM
 epoch:Int
def Za9 (s:StM) (c:Int) (m:MarkM) (at':Int) (f:FileM):StM:=⟨if 0 < at' then s.files.set (at'.toNat - 1) f else s.files,putMk s.marks c m,s.epoch⟩
abbrev pSt (s:StM):List PV:=[pRow encF s.files,pRow encM s.marks,pI s.epoch]
abbrev pMk (m:MarkM):List PV:=[pI m.1,pI m.2.1,pI m.2.2.1,pI m.2.2.2]
abbrev pFi (f:FileM):List PV:=[pS f.1,pI f.2.1,pS f.2.2]
def Zvw (ps qs:List PV):Prop:=∃ (s:StM) (c:Int) (m:MarkM) (at':Int) (f:FileM),s.files.length<=1000000/\s.marks.length<=1000000/\-9223372036854775808<=c/\c<=9223372036854775807/\at'<=s.files.length/\ps=pSt s++[pI c]++pMk m++[pI at']++pFi f/\qs=pSt (Za9 s c m at' f)++pMk m
theorem fMarked:∀ ps q1 q2,Zvw ps q1->Zvw ps q2->q1=q2:=by
 rintro ps q1 q2 ⟨⟨s1,s2,s3⟩,c,⟨a1,a2,a3,a4⟩,at1,⟨f1,f2,f3⟩,_,_,_,_,_,rfl,rfl⟩ ⟨⟨s1',s2',s3'⟩,c',⟨b1,b2,b3,b4⟩,at2,⟨g1,g2,g3⟩,_,_,_,_,_,h,rfl⟩
 simp only [pSt,pMk,pFi,List.cons_append,List.nil_append,List.append_nil,List.cons.injEq,PV.v.injEq,Value.int.injEq,Value.string.injEq,true_and,and_true] at h
 obtain ⟨h1,h2,rfl,rfl,rfl,rfl,rfl,rfl,rfl,rfl,rfl,rfl⟩:=h
 rw [fil.pRow_inj Zn2 h1,fil.pRow_inj Zqd h2]
noncomputable def FM:Fns:=fun k=>match k with | 1=>spec RPutM | _=>fun _=>none
theorem y1:ToldF 78 (EPutM 1) (FM 1):=toldPutM 1
theorem toldMarked (k:Nat):ToldF 32 (Zg0 k) (spec Zvw):=by
 refine Ze5 Zac Zad FM [.row,.row,.num,.num,.num,.num,.num,.num,.num,.num,.num,.num] ?_
 intro ps qs h _
 obtain ⟨⟨s1,s2,s3⟩,c,⟨a1,a2,a3,a4⟩,at1,⟨f1,f2,f3⟩,hl1,hl2,hc1,hc2,hat,rfl,rfl⟩:=Zaj h
 simp only at hl1 hl2 hat
 have cl:=Zqe encF s1 3 rfl (by omega)
 have rc:=Zu0 encF s1
 have e1:FM 1 [pRow encM s2,pI c,pI a1,pI a2,pI a3,pI a4]=some [pRow encM (putMk s2 c (a1,a2,a3,a4))]:=Zal fPutM ⟨s2,c,(a1,a2,a3,a4),hl2,hc1,hc2,rfl,rfl⟩
 by_cases d1:0 < at1
 ·obtain ⟨j,rfl⟩:∃ j:Nat,at1=(j:Int)+1:=⟨at1.toNat - 1,by omega⟩
  have hj:j < s1.length:=by omega
  have hj1:((j:Int)+1).toNat - 1=j:=by omega
  have w1:IntKind.i64.wrap (j:Int)=(j:Int):=wrapI _ (by omega) (by omega)
  have i1:=Zaq encF s1 j 3 3 .i64 rfl hj (by decide)
  have ru:ropPV (.upd 3 0) [pRow encF s1,pI (j:Int),pS f1,pI f2,pS f3]=some (pRow encF (s1.set j (f1,f2,f3))):=Zw8 encF s1 j .i64 (f1,f2,f3) hj
  have hls:(s1.set j (f1,f2,f3)).length=s1.length:=by simp
  simp only [Za9,if_pos d1,hj1]
  generalize s1.set j (f1,f2,f3)=l2 at *
  refine ⟨_,_,_,_,_,_,Zai tabM,k1,fun w FP=>?_,?_⟩
  ·simp [-Zae,Zab,Zaa,Base.ev,SX.ev,evs,Value.oneCell',Zaf,Zfa,binPV,cl,rc,w1,i1,ru,hj,e1,y1]
   all_goals omega
  ·simp [evs,SX.ev,binPV,rc,w1,ru,e1]
 ·simp only [Za9,if_neg d1]
  refine ⟨_,_,_,_,_,_,Zai tabM,k0,fun w FP=>?_,?_⟩
  ·simp [-Zae,Zab,Zaa,Base.ev,SX.ev,evs,Value.oneCell',Zaf,Zfa,binPV,cl,rc,e1,y1]
   all_goals omega
  ·simp [evs,SX.ev,rc,e1]
end Go.Proofs.YtefkakjegdjojaaGreat.sta
