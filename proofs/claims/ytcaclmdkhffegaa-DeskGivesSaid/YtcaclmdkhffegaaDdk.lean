/- Package desk, told: pruned, Give, clash, may, granted, Ask. -/
import Derived.Test.YtcaclmdkhffegaaDkn
import Derived.Test.YtcaclmdkhffegaaWli
namespace Go.Proofs.Ytcaclmdkhffegaa.ddk
open Go Go.RowKit eng SX Fact fil lem lea
open leb (dropL pruneL EDr Zlw RDr fDr EPr Zqv RPr fPr)
open lec (encN lenN ECl Zqy RCl fCl EGr Zqx RGr fGr Zbm)
open lgw (Zby)
open wlm (Zbn dropW putD putB U)
open wto (EDw Zpz RDw fDw gC1 ECa Zq0 RC1 fC1)
open wpu (EPu Zqu RPu fPu EAh)
open wah (Zq1 RAh fAh)
open dkm (Desk clashW freeD Zck lendsD Zb5 askD giveD okW)
set_option linter.unusedVariables false
set_option linter.unusedSimpArgs false
set_option maxRecDepth 1000000
def EAc (k:Nat):FnE:={ k:=k,ins:=[none,none],leaks:=[false,false],outs:=[none],kinds:=[.num] }
def EPd (k:Nat):FnE:={ k:=k,ins:=[some 2,none],leaks:=[false,false,false],outs:=[some 2],kinds:=[.row,.row] }
def EGv (k:Nat):FnE:={ k:=k,ins:=[some 2,none,none],leaks:=[false,false,false,false],outs:=[some 2],kinds:=[.row,.row] }
def ECh (k:Nat):FnE:={ k:=k,ins:=[some 2,none,some 4],leaks:=[false,false,false,false,false,false,false],outs:=[none],kinds:=[.row] }
def EMw (k:Nat):FnE:={ k:=k,ins:=[some 2,none,some 4],leaks:=[false,false,false,false,false,false,false],outs:=[none],kinds:=[.truth] }
def EGd (k:Nat):FnE:={ k:=k,ins:=[some 2,none,some 4],leaks:=[false,false,false,false,false,false,false],outs:=[some 2],kinds:=[.row,.row] }
def EAk (k:Nat):FnE:={ k:=k,ins:=[some 2,none,some 4],leaks:=[false,false,false,false,false,false,false],outs:=[some 2,none,none,none],kinds:=[.row,.row,.num,.row,.num] }
def hN (_:FuncId) (o:Oper):Option Hint:=match o.op with | .unOp .not ..=>some .parts | _=>none
def tabL (f:FuncId):Option FnE:=cond (Nat.beq f 26) (some (EDr 1)) (cond (Nat.beq f 50) (some (EPr 2)) (cond (Nat.beq f 62) (some (ECl 3)) (cond (Nat.beq f 55) (some (EGr 4)) (cond (Nat.beq f 56) (some (EDw 5)) (cond (Nat.beq f 61) (some (EPu 6)) (cond (Nat.beq f 67) (some (EAh 7)) (cond (Nat.beq f 54) (some (EAc 8)) none)))))))
def tabB (f:FuncId):Option FnE:=cond (Nat.beq f 43) (some (ECh 9)) (tabL f)
def tabC (f:FuncId):Option FnE:=cond (Nat.beq f 52) (some (EMw 10)) (cond (Nat.beq f 29) (some (EPd 11)) (tabB f))
def tabG (f:FuncId) (args:List AV):Option (List GA × FnE):=cond (Nat.beq f 27) (some (gC1,ECa 12)) none
def orcD:Orc:=orcOr (orcFn tabL) (orcG tabG)
@[simp] def zDdk1:List SX:=[.var 0,.var 1,.var 2,.var 3,.var 4,.var 5,.var 6]
@[simp] def zDdk2:SX:=.bin .eql (.len (.fn 9 zDdk1 0)) (.con (.int .i64 0))
@[simp] def zDdk3:SX:=.con (.int .i64 9223372036854775807)
@[simp] def zDdk4:SX:=.fn 7 [.var 1,.var 3,.var 5] 0
@[simp] def zDdk5:SX:=rop ROp.min2 [.var 1,.bin .sub zDdk3 (.var 0)]
@[simp] def zDdk6:List SX:=[.var 2,.con (.int .i64 60)]
theorem ad:runTo Try.prog fil.noOrc 10000 54 (EAc 1) [.num,.num] [0,0,0,0]=some ([.ok (.var 0),.ok (.var 1),.ok (.bin .lss (.var 0) (.con (.int .i64 0))),.is (.bin .lss (.var 0) (.con (.int .i64 0))) (.bool false),.ok (.bin .gtr (.var 0) zDdk3),.is (.bin .gtr (.var 0) zDdk3) (.bool false),.ok (.bin .lss (.var 1) (.con (.int .i64 0))),.is (.bin .lss (.var 1) (.con (.int .i64 0))) (.bool false),.ok (.bin .gtr (.var 1) zDdk3),.is (.bin .gtr (.var 1) zDdk3) (.bool false),.ok (.bin .sub zDdk3 (.var 0)),.ok zDdk5,.ok (.bin .add (.var 0) zDdk5)],[.bin .add (.var 0) zDdk5]):=by kernel_rfl
theorem pd:runTo Try.prog orcD 10000 29 (EPd 1) [.row,.row,.num] []=some ([.ok (.var 2),.fn 50 (EPr 2) [.var 0,.var 2],Fact.fg 27 gC1 (ECa 12) [.var 1]],[.fn 2 [.var 0,.var 2] 0,.fn 12 [.var 1] 0]):=by kernel_rfl
theorem gv:runTo Try.prog orcD 10000 12 (EGv 1) [.row,.row,.num,.num] []=some ([.ok (.var 2),.ok (.var 3),.fn 26 (EDr 1) [.var 0,.var 2,.var 3],Fact.fg 27 gC1 (ECa 12) [.var 1]],[.fn 1 [.var 0,.var 2,.var 3] 0,.fn 12 [.var 1] 0]):=by kernel_rfl
theorem ch:runTo Try.prog (orcFn tabL) 10000 43 (ECh 1) [.row,.row,.num,.num,.num,.num,.num] []=some ([.ok (.var 2),.ok (.var 3),.ok (.var 4),.ok (.var 5),.ok (.var 6),.fn 62 (ECl 3) [.var 0,.var 2,.var 3,.var 5,.var 6]],[.fn 3 [.var 0,.var 2,.var 3,.var 5,.var 6] 0]):=by kernel_rfl
theorem my0:runTo Try.prog (orcFn tabB) 10000 52 (EMw 1) [.row,.row,.num,.num,.num,.num,.num] [0]=some ([.ok (.var 2),.ok (.var 3),.ok (.var 4),.ok (.var 5),.ok (.var 6),.fn 43 (ECh 9) zDdk1,.ok (.len (.fn 9 zDdk1 0)),.ok zDdk2,.is zDdk2 (.bool false)],[.con (.bool false)]):=by kernel_rfl
theorem my11:runTo Try.prog (orcFn tabB) 10000 52 (EMw 1) [.row,.row,.num,.num,.num,.num,.num] [1,1] hN=some ([.ok (.var 2),.ok (.var 3),.ok (.var 4),.ok (.var 5),.ok (.var 6),.fn 43 (ECh 9) zDdk1,.ok (.len (.fn 9 zDdk1 0)),.ok zDdk2,.is zDdk2 (.bool true),.fn 67 (EAh 7) [.var 1,.var 3,.var 5],.ok zDdk4,.ok (rop ROp.notB [zDdk4]),.is (rop ROp.notB [zDdk4]) (.bool true)],[.con (.bool true)]):=by kernel_rfl
theorem my10:runTo Try.prog (orcFn tabB) 10000 52 (EMw 1) [.row,.row,.num,.num,.num,.num,.num] [1,0] hN=some ([.ok (.var 2),.ok (.var 3),.ok (.var 4),.ok (.var 5),.ok (.var 6),.fn 43 (ECh 9) zDdk1,.ok (.len (.fn 9 zDdk1 0)),.ok zDdk2,.is zDdk2 (.bool true),.fn 67 (EAh 7) [.var 1,.var 3,.var 5],.ok zDdk4,.ok (rop ROp.notB [zDdk4]),.is (rop ROp.notB [zDdk4]) (.bool false)],[.con (.bool false)]):=by kernel_rfl
theorem gd:runTo Try.prog (orcFn tabC) 10000 34 (EGd 1) [.row,.row,.num,.num,.num,.num,.num] [1]=some ([.ok (.var 2),.ok (.var 3),.ok (.var 4),.ok (.var 5),.ok (.var 6),.fn 52 (EMw 10) zDdk1,.is (.fn 10 zDdk1 0) (.bool true),.fn 54 (EAc 8) zDdk6,.ok (.fn 8 zDdk6 0),.fn 55 (EGr 4) [.var 0,.var 3,.var 5,.var 6,.fn 8 zDdk6 0],.fn 56 (EDw 5) [.var 1,.var 3]],[.fn 4 [.var 0,.var 3,.var 5,.var 6,.fn 8 zDdk6 0] 0,.fn 5 [.var 1,.var 3] 0]):=by kernel_rfl
theorem orcD_ok:OrcOk Try.prog orcD:=Zgh (Zae _) (Zn2 _)
@[simp] theorem kDr (k:Nat):(EDr k).k=k:=rfl
@[simp] theorem kPr (k:Nat):(EPr k).k=k:=rfl
@[simp] theorem kCl (k:Nat):(ECl k).k=k:=rfl
@[simp] theorem kGr (k:Nat):(EGr k).k=k:=rfl
@[simp] theorem kAc (k:Nat):(EAc k).k=k:=rfl
@[simp] theorem kPd (k:Nat):(EPd k).k=k:=rfl
@[simp] theorem kGv (k:Nat):(EGv k).k=k:=rfl
@[simp] theorem kCh (k:Nat):(ECh k).k=k:=rfl
@[simp] theorem kMw (k:Nat):(EMw k).k=k:=rfl
@[simp] theorem kGd (k:Nat):(EGd k).k=k:=rfl
@[simp] theorem kAk (k:Nat):(EAk k).k=k:=rfl
def RAc (ps qs:List PV):Prop:=∃ a b:Int,0<=a/\a<=1000000/\0<=b/\b<=1000000/\ps=[pI a,pI b]/\qs=[pI (a+b)]
theorem fAc:∀ ps q1 q2,RAc ps q1->RAc ps q2->q1=q2:=by
 rintro ps q1 q2 ⟨a,b,_,_,_,_,rfl,rfl⟩ ⟨a',b',_,_,_,_,h,rfl⟩
 simp only [List.cons.injEq,PV.v.injEq,Value.int.injEq,true_and,and_true] at h
 obtain ⟨rfl,rfl⟩:=h
 rfl
theorem toldAc (k:Nat):ToldF 54 (EAc k) (spec RAc):=by
 refine Zbr mixed_ok names_ok (fun _ _=>none) [.num,.num] ?_
 intro ps qs h _
 obtain ⟨a,b,h1,h2,h3,h4,rfl,rfl⟩:=Zal h
 have v1:IntKind.i64.wrap (9223372036854775807 - a)=9223372036854775807 - a:=wrapI _ (by omega) (by omega)
 have v2:IntKind.i64.wrap (a+b)=a+b:=wrapI _ (by omega) (by omega)
 have v3:min b (9223372036854775807 - a)=b:=by omega
 refine ⟨_,_,_,_,_,_,fil.noOrc_ok,ad,fun w FP=>?_,?_⟩
 ·simp [Base.ev,SX.ev,evs,Value.oneCell',binPV,ropPV,v1,v2,v3]
  all_goals omega
 ·simp [evs,SX.ev,binPV,ropPV,v1,v2,v3]
def pDk (d:Desk):List PV:=[pRow encL d.1,pRow encL d.2]
def inDk (d:Desk) (t:Int) (w:LeM):List PV:=[pRow encL d.1,pRow encL d.2,pI t,pI w.1,pI w.2.1,pI w.2.2.1,pI w.2.2.2]
theorem Zel {d d':Desk} {t t':Int} {w w':LeM} (h:inDk d t w=inDk d' t' w'):d=d'/\t=t'/\w=w':=by
 obtain ⟨a,b⟩:=d
 obtain ⟨a',b'⟩:=d'
 obtain ⟨w0,w1,w2,w3⟩:=w
 obtain ⟨v0,v1,v2,v3⟩:=w'
 simp only [inDk,List.cons.injEq,PV.v.injEq,Value.int.injEq,true_and,and_true] at h
 obtain ⟨h1,h2,rfl,rfl,rfl,rfl,rfl⟩:=h
 obtain rfl:=fil.pRow_inj Zar h1
 obtain rfl:=fil.pRow_inj Zar h2
 exact ⟨rfl,rfl,rfl⟩
def okIn (d:Desk) (t:Int):Prop:=d.1.length<=999999/\d.2.length<=999999/\0<=t/\t<=1000000
def RPd (ps qs:List PV):Prop:=∃ (d:Desk) (t:Int),okIn d t/\ps=pDk d++[pI t]/\qs=pDk (Zb5 t d)
theorem fPd:∀ ps q1 q2,RPd ps q1->RPd ps q2->q1=q2:=by
 rintro ps q1 q2 ⟨⟨a,b⟩,t,_,rfl,rfl⟩ ⟨⟨a',b'⟩,t',_,h,rfl⟩
 simp only [pDk,List.cons_append,List.nil_append,List.cons.injEq,PV.v.injEq,Value.int.injEq,true_and,and_true] at h
 obtain ⟨h1,h2,rfl⟩:=h
 obtain rfl:=fil.pRow_inj Zar h1
 obtain rfl:=fil.pRow_inj Zar h2
 rfl
def RGv (ps qs:List PV):Prop:=∃ (d:Desk) (c f:Int),d.1.length<=999999/\d.2.length<=999999/\ps=pDk d++[pI c,pI f]/\qs=pDk (giveD d c f)
theorem fGv:∀ ps q1 q2,RGv ps q1->RGv ps q2->q1=q2:=by
 rintro ps q1 q2 ⟨⟨a,b⟩,c,f,_,_,rfl,rfl⟩ ⟨⟨a',b'⟩,c',f',_,_,h,rfl⟩
 simp only [pDk,List.cons_append,List.nil_append,List.cons.injEq,PV.v.injEq,Value.int.injEq,true_and,and_true] at h
 obtain ⟨h1,h2,rfl,rfl⟩:=h
 obtain rfl:=fil.pRow_inj Zar h1
 obtain rfl:=fil.pRow_inj Zar h2
 rfl
def RCh (ps qs:List PV):Prop:=∃ d t w,okIn d t/\ps=inDk d t w/\qs=[pRow encN (clashW d t w)]
theorem fCh:∀ ps q1 q2,RCh ps q1->RCh ps q2->q1=q2:=by
 rintro ps q1 q2 ⟨d,t,w,_,rfl,rfl⟩ ⟨d',t',w',_,h,rfl⟩
 obtain ⟨rfl,rfl,rfl⟩:=Zel h
 rfl
def RMw (ps qs:List PV):Prop:=∃ d t w,okIn d t/\ps=inDk d t w/\qs=[pB (freeD t d w)]
theorem fMw:∀ ps q1 q2,RMw ps q1->RMw ps q2->q1=q2:=by
 rintro ps q1 q2 ⟨d,t,w,_,rfl,rfl⟩ ⟨d',t',w',_,h,rfl⟩
 obtain ⟨rfl,rfl,rfl⟩:=Zel h
 rfl
def RGd (ps qs:List PV):Prop:=∃ d t w,okIn d t/\MayL d.1/\okL (Zck t w)/\freeD t d w=true/\ps=inDk d t w/\qs=pDk (lendsD t d w)
theorem fGd:∀ ps q1 q2,RGd ps q1->RGd ps q2->q1=q2:=by
 rintro ps q1 q2 ⟨d,t,w,_,_,_,_,rfl,rfl⟩ ⟨d',t',w',_,_,_,_,h,rfl⟩
 obtain ⟨rfl,rfl,rfl⟩:=Zel h
 rfl
noncomputable def G:Fns:=fun k=>match k with | 1=>spec RDr | 2=>spec RPr | 3=>spec RCl | 4=>spec RGr | 5=>spec RDw | 6=>spec RPu | 7=>spec RAh | 8=>spec RAc | 9=>spec RCh | 10=>spec RMw | 11=>spec RPd | 12=>spec RC1 | 13=>spec RGd | _=>fun _=>none
theorem t1:ToldF 26 (EDr 1) (G 1):=Zlw 1
theorem t2:ToldF 50 (EPr 2) (G 2):=Zqv 2
theorem t3:ToldF 62 (ECl 3) (G 3):=Zqy 3
theorem t4:ToldF 55 (EGr 4) (G 4):=Zqx 4
theorem t5:ToldF 56 (EDw 5) (G 5):=Zpz 5
theorem t6:ToldF 61 (EPu 6) (G 6):=Zqu 6
theorem t7:ToldF 67 (EAh 7) (G 7):=Zq1 7
theorem t8:ToldF 54 (EAc 8) (G 8):=toldAc 8
theorem t12:ToldG 27 gC1 (ECa 12) (G 12):=Zq0 12
theorem G1 {l:List LeM} {c f:Int} (h:l.length<=1000000):G 1 [pRow encL l,pI c,pI f]=some [pRow encL (dropL l c f)]:=Zam fDr ⟨l,c,f,h,rfl,rfl⟩
theorem G2 {l:List LeM} {t:Int} (h:l.length<=1000000):G 2 [pRow encL l,pI t]=some [pRow encL (pruneL l t)]:=Zam fPr ⟨l,t,h,rfl,rfl⟩
theorem G3 {l:List LeM} {t c f m:Int} (h:l.length<=1000000):G 3 [pRow encL l,pI t,pI c,pI f,pI m]=some [pRow encN (Zbm l t c f m)]:=Zam fCl ⟨l,t,c,f,m,h,rfl,rfl⟩
theorem G4 {l:List LeM} {a b c e:Int} (hm:MayL l) (ho:okL (a,b,c,e)) (h:l.length<=999999):G 4 [pRow encL l,pI a,pI b,pI c,pI e]=some [pRow encL (Zby l (a,b,c,e))]:=Zam fGr ⟨l,(a,b,c,e),hm,ho,by omega,rfl,rfl⟩
theorem G5 {l:List LeM} {c:Int} (h:l.length<=1000000):G 5 [pRow encL l,pI c]=some [pRow encL (dropW l c)]:=Zam fDw ⟨l,c,h,rfl,rfl⟩
theorem G6 {l:List LeM} {a b c e:Int} (h:l.length<=999999):G 6 [pRow encL l,pI a,pI b,pI c,pI e]=some [pRow encL (putB l (a,b,c,e)).1,pB (putB l (a,b,c,e)).2]:=Zam fPu ⟨l,(a,b,c,e),h,rfl,rfl⟩
theorem G7 {l:List LeM} {c f:Int} (h:l.length<=1000000):G 7 [pRow encL l,pI c,pI f]=some [pB (Zbn l c f)]:=Zam fAh ⟨l,c,f,h,rfl,rfl⟩
theorem G8 {t:Int} (h0:0<=t) (h:t<=1000000):G 8 [pI t,pI 60]=some [pI (t+60)]:=Zam fAc ⟨t,60,h0,h,by omega,by omega,rfl,rfl⟩
theorem G12 {l:List LeM} (h:l.length<=1000000):G 12 [pRow encL l]=some [pRow encL l]:=Zam fC1 ⟨l,h,rfl,rfl⟩
theorem toldPd (k:Nat):ToldF 29 (EPd k) (spec RPd):=by
 refine Zbr mixed_ok names_ok G [.row,.row,.num] ?_
 intro ps qs h _
 obtain ⟨d,t,⟨h1,h2,h3,h4⟩,rfl,rfl⟩:=Zal h
 have g2:=G2 (l:=d.1) (t:=t) (by omega)
 have g12:=G12 (l:=d.2) (by omega)
 simp only [pDk,Zb5,List.cons_append,List.nil_append] at *
 refine ⟨_,_,_,_,_,_,orcD_ok,pd,fun w FP=>?_,?_⟩
 ·simp [Base.ev,SX.ev,evs,Value.oneCell',g2,g12,ddk.t2,ddk.t12]
 ·simp [evs,SX.ev,g2,g12]
theorem toldGv (k:Nat):ToldF 12 (EGv k) (spec RGv):=by
 refine Zbr mixed_ok names_ok G [.row,.row,.num,.num] ?_
 intro ps qs h _
 obtain ⟨d,c,f,h1,h2,rfl,rfl⟩:=Zal h
 have g1:=G1 (l:=d.1) (c:=c) (f:=f) (by omega)
 have g12:=G12 (l:=d.2) (by omega)
 simp only [pDk,giveD,List.cons_append,List.nil_append] at *
 refine ⟨_,_,_,_,_,_,orcD_ok,gv,fun w FP=>?_,?_⟩
 ·simp [Base.ev,SX.ev,evs,Value.oneCell',g1,g12,ddk.t1,ddk.t12]
 ·simp [evs,SX.ev,g1,g12]
theorem Zqz (k:Nat):ToldF 43 (ECh k) (spec RCh):=by
 refine Zbr mixed_ok names_ok G [.row,.row,.num,.num,.num,.num,.num] ?_
 intro ps qs h _
 obtain ⟨d,t,x,⟨h1,h2,h3,h4⟩,rfl,rfl⟩:=Zal h
 have g3:=G3 (l:=d.1) (t:=t) (c:=x.1) (f:=x.2.2.1) (m:=x.2.2.2) (by omega)
 simp only [inDk,clashW] at *
 refine ⟨_,_,_,_,_,_,Zae tabL,ch,fun w FP=>?_,?_⟩
 ·simp [Base.ev,SX.ev,evs,Value.oneCell',g3,ddk.t3]
 ·simp [evs,SX.ev,g3]
theorem rnot (b:Bool):ropPV .notB [pB b]=some (pB (!b)):=rfl
theorem t9:ToldF 43 (ECh 9) (G 9):=Zqz 9
theorem G9 {d:Desk} {t:Int} (w:LeM) (h:okIn d t):G 9 (inDk d t w)=some [pRow encN (clashW d t w)]:=Zam fCh ⟨d,t,w,h,rfl,rfl⟩
theorem Zqw (k:Nat):ToldF 52 (EMw k) (spec RMw):=by
 refine Zbr mixed_ok names_ok G [.row,.row,.num,.num,.num,.num,.num] ?_
 intro ps qs h _
 obtain ⟨d,t,x,hok,rfl,rfl⟩:=Zal h
 have g9:=G9 x hok
 have g7:=G7 (l:=d.2) (c:=x.1) (f:=x.2.2.1) (by have:=hok.2.1;omega)
 simp only [inDk,freeD] at *
 generalize clashW d t x=cl at *
 have hn:=lenN cl
 cases cl with
 | cons z r =>
  have hne:¬ ((r.length:Int)+1=0):=by omega
  refine ⟨_,_,_,_,_,_,Zae tabB,my0,fun w FP=>?_,?_⟩
  ·simp [Base.ev,SX.ev,evs,Value.oneCell',g9,ddk.t9,hn,binPV,hne]
  ·simp [evs,SX.ev]
 | nil =>
  generalize Zbn d.2 x.1 x.2.2.1=b at *
  cases b with
  | false =>
   refine ⟨_,_,_,_,_,_,Zae tabB,my11,fun w FP=>?_,?_⟩
   ·simp [Base.ev,SX.ev,evs,Value.oneCell',g9,g7,ddk.t9,ddk.t7,hn,binPV,rnot]
   ·simp [evs,SX.ev]
  | true =>
   refine ⟨_,_,_,_,_,_,Zae tabB,my10,fun w FP=>?_,?_⟩
   ·simp [Base.ev,SX.ev,evs,Value.oneCell',g9,g7,ddk.t9,ddk.t7,hn,binPV,rnot]
   ·simp [evs,SX.ev]
theorem t10:ToldF 52 (EMw 10) (G 10):=Zqw 10
theorem G10 {d:Desk} {t:Int} (w:LeM) (h:okIn d t):G 10 (inDk d t w)=some [pB (freeD t d w)]:=Zam fMw ⟨d,t,w,h,rfl,rfl⟩
theorem toldGd (k:Nat):ToldF 34 (EGd k) (spec RGd):=by
 refine Zbr mixed_ok names_ok G [.row,.row,.num,.num,.num,.num,.num] ?_
 intro ps qs h _
 obtain ⟨d,t,x,hok,hm,ho,hf,rfl,rfl⟩:=Zal h
 have g10:=G10 x hok
 rw [hf] at g10
 obtain ⟨h1,h2,h3,h4⟩:=hok
 have g8:=G8 h3 h4
 have g4:=G4 (l:=d.1) (a:=x.1) (b:=x.2.2.1) (c:=x.2.2.2) (e:=t+60) hm ho h1
 have g5:=G5 (l:=d.2) (c:=x.1) (by omega)
 simp only [inDk,lendsD,Zck,pDk] at *
 refine ⟨_,_,_,_,_,_,Zae tabC,gd,fun w FP=>?_,?_⟩
 ·simp [Base.ev,SX.ev,evs,Value.oneCell',g4,g5,g8,g10,ddk.t4,ddk.t5,ddk.t8,ddk.t10]
 ·simp [evs,SX.ev,g4,g5,g8]
end Go.Proofs.Ytcaclmdkhffegaa.ddk
