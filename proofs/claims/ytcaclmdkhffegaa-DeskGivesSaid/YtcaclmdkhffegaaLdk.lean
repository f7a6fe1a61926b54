/- The document's desk: Add, lends, free, Give and AskDesk, told. -/
import Derived.Test.YtcaclmdkhffegaaLgq
import Derived.Test.YtcaclmdkhffegaaWpw
import Derived.Test.YtcaclmdkhffegaaWra
namespace Go.Proofs.Ytcaclmdkhffegaa.ldk
open Go Go.RowKit eng SX Fact fil lem lea
open leb (dropL pruneL)
open ldp (EDqr Zny RDq fDq EPqr Zmd RPq fPq lenL)
open lcq (ECq Zp0 RCq fCq Zb1)
open lgq (EGq toldGq RGq fGq grantQ)
open lec (encN lenN)
open wlm (Zbn dropW putD)
open wdp (EDr Zlw RDd fDd)
open wpw (EPw toldPw RPw fPw)
open wra (ERa toldRa RRa fRa)
set_option linter.unusedVariables false
set_option linter.unusedSimpArgs false
set_option maxRecDepth 1000000
def EAd (k:Nat):FnE:={ k:=k,ins:=[none,none],leaks:=[false,false],outs:=[none],kinds:=[.num] }
def ELe (k:Nat):FnE:={ k:=k,ins:=[some 2,none,some 4],leaks:=[false,false,false,false,false,false,false],outs:=[some 2],kinds:=[.row,.row] }
def EFe (k:Nat):FnE:={ k:=k,ins:=[some 2,none,some 4],leaks:=[false,false,false,false,false,false,false],outs:=[none],kinds:=[.truth] }
def EGi (k:Nat):FnE:={ k:=k,ins:=[some 2,none,none],leaks:=[false,true,false,false],outs:=[some 2],kinds:=[.row,.row] }
def EAs (k:Nat):FnE:={ k:=k,ins:=[some 2,none,some 4],leaks:=[false,true,false,false,false,false,false],outs:=[some 2,none,none,none],kinds:=[.row,.row,.num,.row,.num] }
def hN (_:FuncId) (o:Oper):Option Hint:=match o.op with | .unOp .not ..=>some .parts | _=>none
def tabL (f:FuncId):Option FnE:=cond (Nat.beq f 28) (some (EDqr 1)) (cond (Nat.beq f 35) (some (EPqr 2)) (cond (Nat.beq f 38) (some (ECq 3)) (cond (Nat.beq f 57) (some (EGq 4)) (cond (Nat.beq f 59) (some (EDr 5)) (cond (Nat.beq f 44) (some (EPw 6)) (cond (Nat.beq f 21) (some (ERa 7)) (cond (Nat.beq f 58) (some (EAd 8)) none)))))))
def tabA (f:FuncId):Option FnE:=cond (Nat.beq f 36) (some (EFe 9)) (cond (Nat.beq f 37) (some (ELe 10)) (tabL f))
@[simp] def zLdk1:List SX:=[.fn 2 [.var 0,.var 2] 0,.var 1,.var 2,.var 3,.var 4,.var 5,.var 6]
@[simp] def zLdk2:SX:=.bin .eql (.len (.fn 3 [.var 0,.var 2,.var 3,.var 5,.var 6] 0)) (.con (.int .i64 0))
@[simp] def zLdk3:List SX:=[.var 1,.var 3,.var 4,.var 5,.var 6]
@[simp] def zLdk4:List SX:=[.var 0,.var 2,.var 3,.var 5,.var 6]
@[simp] def zLdk5:SX:=.fn 7 [.var 1,.var 3,.var 5] 0
@[simp] def zLdk6:SX:=.bin .sub (.con (.int .i64 9223372036854775807)) (.var 1)
@[simp] def zLdk7:List SX:=[.var 2,.con (.int .i64 60)]
@[simp] def zLdk8:List SX:=[.var 0,.var 2]
@[simp] def zLdk9:Fact:=.ok (.var 2)
theorem ad:runTo Try.prog fil.noOrc 10000 58 (EAd 1) [.num,.num] [0]=some ([.ok (.var 0),.ok (.var 1),.ok zLdk6,.ok (.bin .gtr (.var 0) zLdk6),.is (.bin .gtr (.var 0) zLdk6) (.bool false),.ok (.bin .add (.var 0) (.var 1))],[.bin .add (.var 0) (.var 1)]):=by kernel_rfl
theorem gi:runTo Try.prog (orcFn tabL) 10000 13 (EGi 1) [.row,.row,.num,.num] []=some ([zLdk9,.ok (.var 3),.fn 28 (EDqr 1) [.var 0,.var 2,.var 3]],[.fn 1 [.var 0,.var 2,.var 3] 0,.var 1]):=by kernel_rfl
theorem le:runTo Try.prog (orcFn tabL) 10000 37 (ELe 1) [.row,.row,.num,.num,.num,.num,.num] []=some ([zLdk9,.ok (.var 3),.ok (.var 4),.ok (.var 5),.ok (.var 6),.fn 58 (EAd 8) zLdk7,.ok (.fn 8 zLdk7 0),.fn 57 (EGq 4) [.var 0,.var 3,.var 5,.var 6,.fn 8 zLdk7 0],.fn 59 (EDr 5) [.var 1,.var 3]],[.fn 4 [.var 0,.var 3,.var 5,.var 6,.fn 8 zLdk7 0] 0,.fn 5 [.var 1,.var 3] 0]):=by kernel_rfl
theorem fe0:runTo Try.prog (orcFn tabL) 10000 36 (EFe 1) [.row,.row,.num,.num,.num,.num,.num] [0]=some ([zLdk9,.ok (.var 3),.ok (.var 4),.ok (.var 5),.ok (.var 6),.fn 38 (ECq 3) zLdk4,.ok (.len (.fn 3 zLdk4 0)),.ok zLdk2,.is zLdk2 (.bool false)],[.con (.bool false)]):=by kernel_rfl
theorem fe11:runTo Try.prog (orcFn tabL) 10000 36 (EFe 1) [.row,.row,.num,.num,.num,.num,.num] [1,1] hN=some ([zLdk9,.ok (.var 3),.ok (.var 4),.ok (.var 5),.ok (.var 6),.fn 38 (ECq 3) zLdk4,.ok (.len (.fn 3 zLdk4 0)),.ok zLdk2,.is zLdk2 (.bool true),.fn 21 (ERa 7) [.var 1,.var 3,.var 5],.ok zLdk5,.ok (rop ROp.notB [zLdk5]),.is (rop ROp.notB [zLdk5]) (.bool true)],[.con (.bool true)]):=by kernel_rfl
theorem fe10:runTo Try.prog (orcFn tabL) 10000 36 (EFe 1) [.row,.row,.num,.num,.num,.num,.num] [1,0] hN=some ([zLdk9,.ok (.var 3),.ok (.var 4),.ok (.var 5),.ok (.var 6),.fn 38 (ECq 3) zLdk4,.ok (.len (.fn 3 zLdk4 0)),.ok zLdk2,.is zLdk2 (.bool true),.fn 21 (ERa 7) [.var 1,.var 3,.var 5],.ok zLdk5,.ok (rop ROp.notB [zLdk5]),.is (rop ROp.notB [zLdk5]) (.bool false)],[.con (.bool false)]):=by kernel_rfl
theorem as1:runTo Try.prog (orcFn tabA) 10000 18 (EAs 1) [.row,.row,.num,.num,.num,.num,.num] [1]=some ([zLdk9,.ok (.var 3),.ok (.var 4),.ok (.var 5),.ok (.var 6),.fn 35 (EPqr 2) zLdk8,.fn 36 (EFe 9) zLdk1,.is (.fn 9 zLdk1 0) (.bool true),.fn 37 (ELe 10) zLdk1],[.fn 10 zLdk1 0,.fn 10 zLdk1 1,.con (.bool true),.lit 0 [],.con (.int .i64 0)]):=by kernel_rfl
theorem as00:runTo Try.prog (orcFn tabA) 10000 18 (EAs 1) [.row,.row,.num,.num,.num,.num,.num] [0,0]=some ([zLdk9,.ok (.var 3),.ok (.var 4),.ok (.var 5),.ok (.var 6),.fn 35 (EPqr 2) zLdk8,.fn 36 (EFe 9) zLdk1,.is (.fn 9 zLdk1 0) (.bool false),.fn 44 (EPw 6) zLdk3,.ok (.fn 6 zLdk3 1),.is (.fn 6 zLdk3 1) (.bool false)],[.fn 2 zLdk8 0,.var 1,.con (.bool false),.lit 0 [],.con (.int .i64 3)]):=by kernel_rfl
theorem as01:runTo Try.prog (orcFn tabA) 10000 18 (EAs 1) [.row,.row,.num,.num,.num,.num,.num] [0,1]=some ([zLdk9,.ok (.var 3),.ok (.var 4),.ok (.var 5),.ok (.var 6),.fn 35 (EPqr 2) zLdk8,.fn 36 (EFe 9) zLdk1,.is (.fn 9 zLdk1 0) (.bool false),.fn 44 (EPw 6) zLdk3,.ok (.fn 6 zLdk3 1),.is (.fn 6 zLdk3 1) (.bool true),.fn 38 (ECq 3) [.fn 2 zLdk8 0,.var 2,.var 3,.var 5,.var 6]],[.fn 2 zLdk8 0,.fn 6 zLdk3 0,.con (.bool false),.fn 3 [.fn 2 zLdk8 0,.var 2,.var 3,.var 5,.var 6] 0,.con (.int .i64 0)]):=by kernel_rfl
def freeQ (t:Int) (d:List LeM × List LeM) (w:LeM):Bool:=(Zb1 d.1 t w.1 w.2.2.1 w.2.2.2 3).isEmpty && !Zbn d.2 w.1 w.2.2.1
def Zcd (t:Int) (d:List LeM × List LeM) (w:LeM):List LeM × List LeM:=(grantQ d.1 (w.1,w.2.2.1,w.2.2.2,t+60),dropW d.2 w.1)
def askQ (t:Int) (d:List LeM × List LeM) (w:LeM):(List LeM × List LeM) × Bool × List Int × Int :=
 if freeQ t (pruneL d.1 t,d.2) w=true then (Zcd t (pruneL d.1 t,d.2) w,true,[],0)
 else if (putD d.2 w).2=true then ((pruneL d.1 t,(putD d.2 w).1),false,Zb1 (pruneL d.1 t) t w.1 w.2.2.1 w.2.2.2 3,0)
 else ((pruneL d.1 t,d.2),false,[],3)
noncomputable def F:Fns:=fun k=>match k with | 1=>spec RDq | 2=>spec RPq | 3=>spec RCq | 4=>spec RGq | 5=>spec RDd | 6=>spec RPw | 7=>spec RRa | _=>fun _=>none
def RAd (ps qs:List PV):Prop:=∃ a b:Int,0<=a/\a<=1000000/\0<=b/\b<=1000000/\ps=[pI a,pI b]/\qs=[pI (a+b)]
theorem fAd:∀ ps q1 q2,RAd ps q1->RAd ps q2->q1=q2:=by
 rintro ps q1 q2 ⟨a,b,_,_,_,_,rfl,rfl⟩ ⟨a',b',_,_,_,_,h,rfl⟩
 simp only [List.cons.injEq,PV.v.injEq,Value.int.injEq,true_and,and_true] at h
 obtain ⟨rfl,rfl⟩:=h
 rfl
theorem toldAd (k:Nat):ToldF 58 (EAd k) (spec RAd):=by
 refine Zbr mixed_ok names_ok (fun _ _=>none) [.num,.num] ?_
 intro ps qs h _
 obtain ⟨a,b,h1,h2,h3,h4,rfl,rfl⟩:=Zal h
 have v1:IntKind.i64.wrap (9223372036854775807 - b)=9223372036854775807 - b:=wrapI _ (by omega) (by omega)
 have v2:IntKind.i64.wrap (a+b)=a+b:=wrapI _ (by omega) (by omega)
 refine ⟨_,_,_,_,_,_,fil.noOrc_ok,ad,fun w FP=>?_,?_⟩
 ·simp [Base.ev,SX.ev,evs,Value.oneCell',binPV,v1,v2]
  omega
 ·simp [evs,SX.ev,binPV,v2]
@[simp] theorem kAd (k:Nat):(EAd k).k=k:=rfl
@[simp] theorem kLe (k:Nat):(ELe k).k=k:=rfl
@[simp] theorem kFe (k:Nat):(EFe k).k=k:=rfl
@[simp] theorem kGi (k:Nat):(EGi k).k=k:=rfl
@[simp] theorem kAs (k:Nat):(EAs k).k=k:=rfl
def pDk (d:List LeM × List LeM):List PV:=[pRow encL d.1,pRow encL d.2]
def inDk (d:List LeM × List LeM) (t:Int) (w:LeM):List PV:=[pRow encL d.1,pRow encL d.2,pI t,pI w.1,pI w.2.1,pI w.2.2.1,pI w.2.2.2]
theorem Zel {d d':List LeM × List LeM} {t t':Int} {w w':LeM} (h:inDk d t w=inDk d' t' w'):d=d'/\t=t'/\w=w':=by
 obtain ⟨a,b⟩:=d
 obtain ⟨a',b'⟩:=d'
 obtain ⟨w0,w1,w2,w3⟩:=w
 obtain ⟨v0,v1,v2,v3⟩:=w'
 simp only [inDk,List.cons.injEq,PV.v.injEq,Value.int.injEq,true_and,and_true] at h
 obtain ⟨h1,h2,rfl,rfl,rfl,rfl,rfl⟩:=h
 obtain rfl:=fil.pRow_inj Zar h1
 obtain rfl:=fil.pRow_inj Zar h2
 exact ⟨rfl,rfl,rfl⟩
def okIn (d:List LeM × List LeM) (t:Int):Prop:=d.1.length<=999999/\d.2.length<=999999/\0<=t/\t<=1000000
def RFe (ps qs:List PV):Prop:=∃ d t w,okIn d t/\ps=inDk d t w/\qs=[pB (freeQ t d w)]
theorem fFe:∀ ps q1 q2,RFe ps q1->RFe ps q2->q1=q2:=by
 rintro ps q1 q2 ⟨d,t,w,_,rfl,rfl⟩ ⟨d',t',w',_,h,rfl⟩
 obtain ⟨rfl,rfl,rfl⟩:=Zel h
 rfl
def RLe (ps qs:List PV):Prop:=∃ d t w,okIn d t/\ps=inDk d t w/\qs=pDk (Zcd t d w)
theorem fLe:∀ ps q1 q2,RLe ps q1->RLe ps q2->q1=q2:=by
 rintro ps q1 q2 ⟨d,t,w,_,rfl,rfl⟩ ⟨d',t',w',_,h,rfl⟩
 obtain ⟨rfl,rfl,rfl⟩:=Zel h
 rfl
def RAs (ps qs:List PV):Prop:=∃ d t w,okIn d t/\ps=inDk d t w/\qs=pDk (askQ t d w).1++[pB (askQ t d w).2.1,pRow encN (askQ t d w).2.2.1,pI (askQ t d w).2.2.2]
theorem fAs:∀ ps q1 q2,RAs ps q1->RAs ps q2->q1=q2:=by
 rintro ps q1 q2 ⟨d,t,w,_,rfl,rfl⟩ ⟨d',t',w',_,h,rfl⟩
 obtain ⟨rfl,rfl,rfl⟩:=Zel h
 rfl
def RGi (ps qs:List PV):Prop:=∃ (d:List LeM × List LeM) (c f:Int),d.1.length<=999999/\d.2.length<=999999/\ps=[pRow encL d.1,pRow encL d.2,pI c,pI f]/\qs=pDk (dropL d.1 c f,d.2)
theorem fGi:∀ ps q1 q2,RGi ps q1->RGi ps q2->q1=q2:=by
 rintro ps q1 q2 ⟨⟨a,b⟩,c,f,_,_,rfl,rfl⟩ ⟨⟨a',b'⟩,c',f',_,_,h,rfl⟩
 simp only [List.cons.injEq,PV.v.injEq,Value.int.injEq,true_and,and_true] at h
 obtain ⟨h1,h2,rfl,rfl⟩:=h
 obtain rfl:=fil.pRow_inj Zar h1
 obtain rfl:=fil.pRow_inj Zar h2
 rfl
noncomputable def G:Fns:=fun k=>match k with | 8=>spec RAd | 9=>spec RFe | 10=>spec RLe | k=>F k
theorem t1:ToldF 28 (EDqr 1) (G 1):=Zny 1
theorem t2:ToldF 35 (EPqr 2) (G 2):=Zmd 2
theorem t3:ToldF 38 (ECq 3) (G 3):=Zp0 3
theorem t4:ToldF 57 (EGq 4) (G 4):=toldGq 4
theorem t5:ToldF 59 (EDr 5) (G 5):=Zlw 5
theorem t6:ToldF 44 (EPw 6) (G 6):=toldPw 6
theorem t7:ToldF 21 (ERa 7) (G 7):=toldRa 7
theorem t8:ToldF 58 (EAd 8) (G 8):=toldAd 8
theorem G1 {l:List LeM} {c f:Int} (h:l.length<=1000000):G 1 [pRow encL l,pI c,pI f]=some [pRow encL (dropL l c f)]:=Zam fDq ⟨l,c,f,h,rfl,rfl⟩
theorem G2 {l:List LeM} {t:Int} (h:l.length<=1000000):G 2 [pRow encL l,pI t]=some [pRow encL (pruneL l t)]:=Zam fPq ⟨l,t,h,rfl,rfl⟩
theorem G3 {l:List LeM} {t c f m:Int} (h:l.length<=1000000):G 3 [pRow encL l,pI t,pI c,pI f,pI m]=some [pRow encN (Zb1 l t c f m 3)]:=Zam fCq ⟨l,t,c,f,m,h,rfl,rfl⟩
theorem G4 {l:List LeM} {a b c e:Int} (h:l.length<=999999):G 4 [pRow encL l,pI a,pI b,pI c,pI e]=some [pRow encL (grantQ l (a,b,c,e))]:=Zam fGq ⟨l,(a,b,c,e),h,rfl,rfl⟩
theorem G5 {l:List LeM} {c:Int} (h:l.length<=1000000):G 5 [pRow encL l,pI c]=some [pRow encL (dropW l c)]:=Zam fDd ⟨l,c,h,rfl,rfl⟩
theorem G6 {l:List LeM} {a b c e:Int} (h:l.length<=999999):G 6 [pRow encL l,pI a,pI b,pI c,pI e]=some [pRow encL (putD l (a,b,c,e)).1,pB (putD l (a,b,c,e)).2]:=Zam fPw ⟨l,(a,b,c,e),h,rfl,rfl⟩
theorem G7 {l:List LeM} {c f:Int} (h:l.length<=1000000):G 7 [pRow encL l,pI c,pI f]=some [pB (Zbn l c f)]:=Zam fRa ⟨l,c,f,h,rfl,rfl⟩
theorem G8 {t:Int} (h0:0<=t) (h:t<=1000000):G 8 [pI t,pI 60]=some [pI (t+60)]:=Zam fAd ⟨t,60,h0,h,by omega,by omega,rfl,rfl⟩
theorem toldGi (k:Nat):ToldF 13 (EGi k) (spec RGi):=by
 refine Zbr mixed_ok names_ok G [.row,.row,.num,.num] ?_
 intro ps qs h _
 obtain ⟨d,c,f,h1,h2,rfl,rfl⟩:=Zal h
 have g1:=G1 (l:=d.1) (c:=c) (f:=f) (by omega)
 refine ⟨_,_,_,_,_,_,Zae tabL,gi,fun w FP=>?_,?_⟩
 ·simp [Base.ev,SX.ev,evs,Value.oneCell',g1,ldk.t1]
 ·simp [evs,SX.ev,g1,pDk]
theorem toldLe (k:Nat):ToldF 37 (ELe k) (spec RLe):=by
 refine Zbr mixed_ok names_ok G [.row,.row,.num,.num,.num,.num,.num] ?_
 intro ps qs h _
 obtain ⟨d,t,x,⟨h1,h2,h3,h4⟩,rfl,rfl⟩:=Zal h
 have g8:=G8 h3 h4
 have g4:=G4 (l:=d.1) (a:=x.1) (b:=x.2.2.1) (c:=x.2.2.2) (e:=t+60) h1
 have g5:=G5 (l:=d.2) (c:=x.1) (by omega)
 simp only [inDk,Zcd,pDk] at *
 refine ⟨_,_,_,_,_,_,Zae tabL,le,fun w FP=>?_,?_⟩
 ·simp [Base.ev,SX.ev,evs,Value.oneCell',g4,g5,g8,ldk.t4,ldk.t5,ldk.t8]
 ·simp [evs,SX.ev,g4,g5,g8]
theorem rnot (b:Bool):ropPV .notB [pB b]=some (pB (!b)):=rfl
theorem toldFe (k:Nat):ToldF 36 (EFe k) (spec RFe):=by
 refine Zbr mixed_ok names_ok G [.row,.row,.num,.num,.num,.num,.num] ?_
 intro ps qs h _
 obtain ⟨d,t,x,⟨h1,h2,h3,h4⟩,rfl,rfl⟩:=Zal h
 have g3:=G3 (l:=d.1) (t:=t) (c:=x.1) (f:=x.2.2.1) (m:=x.2.2.2) (by omega)
 have g7:=G7 (l:=d.2) (c:=x.1) (f:=x.2.2.1) (by omega)
 simp only [inDk,freeQ] at *
 generalize Zb1 d.1 t x.1 x.2.2.1 x.2.2.2 3=cl at *
 have hn:=lenN cl
 cases cl with
 | cons z r =>
  have hne:¬ ((r.length:Int)+1=0):=by omega
  refine ⟨_,_,_,_,_,_,Zae tabL,fe0,fun w FP=>?_,?_⟩
  ·simp [Base.ev,SX.ev,evs,Value.oneCell',g3,ldk.t3,hn,binPV,hne]
  ·simp [evs,SX.ev]
 | nil =>
  generalize Zbn d.2 x.1 x.2.2.1=b at *
  cases b with
  | false =>
   refine ⟨_,_,_,_,_,_,Zae tabL,fe11,fun w FP=>?_,?_⟩
   ·simp [Base.ev,SX.ev,evs,Value.oneCell',g3,g7,ldk.t3,ldk.t7,hn,binPV,rnot]
   ·simp [evs,SX.ev]
  | true =>
   refine ⟨_,_,_,_,_,_,Zae tabL,fe10,fun w FP=>?_,?_⟩
   ·simp [Base.ev,SX.ev,evs,Value.oneCell',g3,g7,ldk.t3,ldk.t7,hn,binPV,rnot]
   ·simp [evs,SX.ev]
theorem t9:ToldF 36 (EFe 9) (G 9):=toldFe 9
theorem t10:ToldF 37 (ELe 10) (G 10):=toldLe 10
theorem G9 {d:List LeM × List LeM} {t:Int} (w:LeM) (h:okIn d t):G 9 (inDk d t w)=some [pB (freeQ t d w)]:=Zam fFe ⟨d,t,w,h,rfl,rfl⟩
theorem G10 {d:List LeM × List LeM} {t:Int} (w:LeM) (h:okIn d t):G 10 (inDk d t w)=some (pDk (Zcd t d w)):=Zam fLe ⟨d,t,w,h,rfl,rfl⟩
theorem toldAs (k:Nat):ToldF 18 (EAs k) (spec RAs):=by
 refine Zbr mixed_ok names_ok G [.row,.row,.num,.num,.num,.num,.num] ?_
 intro ps qs h _
 obtain ⟨⟨L,W⟩,t,x,⟨h1,h2,h3,h4⟩,rfl,rfl⟩:=Zal h
 simp only at h1 h2
 have hpl:(pruneL L t).length<=L.length:=List.length_filter_le _ _
 have g2:=G2 (l:=L) (t:=t) (by omega)
 have g9:=G9 (d:=(pruneL L t,W)) x ⟨by show (pruneL L t).length<=_;omega,h2,h3,h4⟩
 have g10:=G10 (d:=(pruneL L t,W)) x ⟨by show (pruneL L t).length<=_;omega,h2,h3,h4⟩
 obtain ⟨x0,x1,x2,x3⟩:=x
 have g6:=G6 (l:=W) (a:=x0) (b:=x1) (c:=x2) (e:=x3) h2
 have g3:=G3 (l:=pruneL L t) (t:=t) (c:=x0) (f:=x2) (m:=x3) (by omega)
 by_cases hf:freeQ t (pruneL L t,W) (x0,x1,x2,x3)=true
 ·have ha:askQ t (L,W) (x0,x1,x2,x3)=(Zcd t (pruneL L t,W) (x0,x1,x2,x3),true,[],0):=by rw [askQ,if_pos hf]
  rw [ha]
  rw [hf] at g9
  simp only [inDk,pDk] at *
  refine ⟨_,_,_,_,_,_,Zae tabA,as1,fun w FP=>?_,?_⟩
  ·simp [Base.ev,SX.ev,evs,Value.oneCell',g2,g9,g10,ldk.t2,ldk.t9,ldk.t10]
  ·simp [evs,SX.ev,g2,g9,g10]
   rfl
 ·have hff:freeQ t (pruneL L t,W) (x0,x1,x2,x3)=false:=by simpa using hf
  rw [hff] at g9
  by_cases hp:(putD W (x0,x1,x2,x3)).2=true
  ·have ha:askQ t (L,W) (x0,x1,x2,x3)=((pruneL L t,(putD W (x0,x1,x2,x3)).1),false,Zb1 (pruneL L t) t x0 x2 x3 3,0):=by rw [askQ,if_neg hf];simp only [if_pos hp]
   rw [ha]
   rw [hp] at g6
   simp only [inDk,pDk] at *
   refine ⟨_,_,_,_,_,_,Zae tabA,as01,fun w FP=>?_,?_⟩
   ·simp [Base.ev,SX.ev,evs,Value.oneCell',g2,g9,g6,g3,ldk.t2,ldk.t9,ldk.t6,ldk.t3]
   ·simp [evs,SX.ev,g2,g6,g3]
  ·have ha:askQ t (L,W) (x0,x1,x2,x3)=((pruneL L t,W),false,[],3):=by rw [askQ,if_neg hf];simp only [if_neg hp]
   have hpf:(putD W (x0,x1,x2,x3)).2=false:=by simpa using hp
   rw [ha]
   rw [hpf] at g6
   simp only [inDk,pDk] at *
   refine ⟨_,_,_,_,_,_,Zae tabA,as00,fun w FP=>?_,?_⟩
   ·simp [Base.ev,SX.ev,evs,Value.oneCell',g2,g9,g6,ldk.t2,ldk.t9,ldk.t6]
   ·simp [evs,SX.ev,g2,g6]
    rfl
end Go.Proofs.Ytcaclmdkhffegaa.ldk
