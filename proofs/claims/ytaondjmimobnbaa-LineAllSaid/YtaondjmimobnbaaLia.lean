/- LineAll by the symbolic engine. -/
import Derived.Test.YtaondjmimobnbaaWbg
import Derived.Test.YtaondjmimobnbaaWsw
import Derived.Test.YtaondjmimobnbaaWpw
import Derived.Test.YtaondjmimobnbaaWra
import Derived.Test.YtaondjmimobnbaaGrd
import Derived.Test.YtaondjmimobnbaaFrameB
namespace Go.Proofs.Ytaondjmimobnbaa.lineAll
open Go Go.RowKit eng SX Fact fil lem lea wlm wdr wwi wto wpu wah wli wsw wra grd
set_option linter.unusedVariables false
set_option linter.unusedSimpArgs false
set_option maxRecDepth 1000000

def isLz (o:Oper):Bool:=match o.op with | .binOp ..=>false | .unOp ..=>false | _=>true
def hL (_:FuncId) (o:Oper):Option Hint:=cond (isLz o) (some .lazy) none
def tabL (f:FuncId):Option FnE:=cond (Nat.beq f 8) (some (EPu 1)) (cond (Nat.beq f 10) (some (EDw 2)) (cond (Nat.beq f 9) (some (wpw.EPw 3)) (cond (Nat.beq f 11) (some (wdp.EDr 4)) (cond (Nat.beq f 12) (some (ESw 5)) (cond (Nat.beq f 13) (some (EAh 6)) (cond (Nat.beq f 14) (some (ERa 7)) (cond (Nat.beq f 7) (some (ETrue 8)) none)))))))
noncomputable def flA:=flat (Zcx Try.prog 3)
noncomputable def lpA:=flat (Zbn (nth flA 7))
def xbox:BoxT:=⟨24,0,false,[.leaf,.leaf,.leaf,.leaf],none,false⟩
def sh0:Shape:=⟨[(0,.leaf),(1,.agg 4),(2,.leaf),(3,.leaf)],[],[some false,none,none,none,none,none,none],152,3⟩
def shA:Shape:=⟨[(0,.leaf),(2,.leaf),(3,.leaf),(5,.ptr 0 0 0 0),(9,.leaf),(10,.leaf),(11,.leaf)],[xbox],[some false,none,none,some true,some true,none,none,none,none,none],152,3⟩
def shR:Shape:=⟨[(8,.leaf)],[],[none],152,3⟩
@[simp] def zLia1:SX:=.bin .add (.con (.int .i64 1)) (.conv .i64 (.bin .rem (.cell (.var 0) (.var 5) 3 1) (.con (.int .u8 7))))
@[simp] def zLia2:SX:=.bin .add (.con (.int .i64 1)) (.conv .i64 (.bin .rem (.cell (.var 0) (.var 5) 3 2) (.con (.int .u8 4))))
@[simp] def zLia3:SX:=.bin .add (.con (.int .i64 1)) (.conv .i64 (.bin .rem (.bin .quo (.cell (.var 0) (.var 5) 3 0) (.con (.int .u8 4))) (.con (.int .u8 2))))
@[simp] def zLia4:SX:=.bin .add zLia1 (.con (.int .i64 1))
@[simp] def zLia5:List SX:=[.var 3,zLia1,.var 5,zLia2,zLia3]
@[simp] def zLia6:List SX:=[.var 4,zLia1,.var 5,zLia2,zLia3]
@[simp] def zLia7:SX:=.bin .rem (.cell (.var 0) (.var 5) 3 0) (.con (.int .u8 4))
@[simp] def zLia8:SX:=.fn 2 [.var 3,zLia1] 0
@[simp] def zLia9:SX:=.fn 4 [.var 4,zLia1] 0
@[simp] def Zgt:List SX:=[.var 3,.var 6,.var 7,.var 8,.var 9]
@[simp] def Zgs:List SX:=[.var 4,.var 6,.var 7,.var 8,.var 9]
@[simp] def Zgr:SX:=.bin .add (.var 5) (.con (.int .i64 1))
@[simp] def Zeo:Fact:=.idx (.var 0) (.var 5) 3 3
@[simp] def Ziu:SX:=.bin .rem (.cell (.var 0) (.var 5) 3 1) (.con (.int .u8 7))
@[simp] def Zit:SX:=.bin .rem (.cell (.var 0) (.var 5) 3 2) (.con (.int .u8 4))
@[simp] def Zgq:SX:=.bin .lss (.var 5) (.len (.var 0))
@[simp] def Zis:SX:=.bin .gtr (.len (.var 0)) (.con (.int .i64 30))
@[simp] def Zjh:SX:=.bin .quo (.cell (.var 0) (.var 5) 3 0) (.con (.int .u8 4))
@[simp] def Zir:SX:=.bin .gtr zLia7 (.con (.int .u8 0))
@[simp] def zLia20:SX:=rop ROp.neB [.fn 6 [.fn 1 zLia5 0,zLia1,zLia2] 0,.fn 7 [.fn 3 zLia6 0,zLia1,zLia2] 0]
@[simp] def zLia21:SX:=rop ROp.neB [.fn 6 [.fn 1 zLia5 0,zLia4,zLia2] 0,.fn 7 [.fn 3 zLia6 0,zLia4,zLia2] 0]
@[simp] def zLia22:SX:=rop ROp.eqB [.fn 6 [.var 3,.var 1,.var 2] 0,.fn 7 [.var 4,.var 1,.var 2] 0]
@[simp] def zLia23:SX:=rop ROp.neB [.fn 6 [zLia8,zLia1,zLia2] 0,.fn 7 [zLia9,zLia1,zLia2] 0]
@[simp] def zLia24:SX:=rop ROp.neB [.fn 6 [zLia8,zLia4,zLia2] 0,.fn 7 [zLia9,zLia4,zLia2] 0]
@[simp] def Zjg:Fact:=.ok (.cell (.var 0) (.var 5) 3 0)
@[simp] def Zhv:Fact:=.ok (.len (.var 0))
theorem q1:segTo Try.prog (orcFn tabL) 10000 flA sh0 [1,1] shR [] hL=some (.ret,[.fn 7 (ETrue 8) [],.is (.fn 8 [] 0) (.bool true),Zhv,.ok Zis,.is Zis (.bool true),.ok (.con (.bool true))],[.con (.bool true)]):=by kernel_rfl
theorem pre:segTo Try.prog (orcFn tabL) 10000 (flA.take 7) sh0 [1,0] shA [(1,0)] hL=some (.normal,[.fn 7 (ETrue 8) [],.is (.fn 8 [] 0) (.bool true),Zhv,.ok Zis,.is Zis (.bool false),.ok (.var 5),.ok (.var 6),.ok (.con (.int .i64 0)),.ok (.var 1),.ok (.var 2),.ok (.var 3),.ok (.var 4)],[.var 0,.var 5,.var 6,.lit 0 [],.lit 0 [],.con (.int .i64 0),.var 1,.var 2,.var 3,.var 4]):=by kernel_rfl
theorem ex:segTo Try.prog (orcFn tabL) 10000 lpA shA [0] shA [(0,0)] hL=some (.exit 0,[Zhv,.ok Zgq,.is Zgq (.bool false),.ok (.var 1),.ok (.var 2),.ok (.var 5),.ok (.var 6),.ok (.var 7),.ok (.var 8),.ok (.var 9)],[.var 0,.var 1,.var 2,.var 3,.var 4,.var 5,.var 6,.var 7,.var 8,.var 9]):=by kernel_rfl
theorem bp:segTo Try.prog (orcFn tabL) 10000 lpA shA [1,1,0,1,0,0] shA [(0,0)] hL=some (.normal,[Zhv,.ok Zgq,.is Zgq (.bool true),Zeo,.idx (.var 0) (.var 5) 3 2,.ok (.cell (.var 0) (.var 5) 3 1),.ok Ziu,.ok (.conv .i64 Ziu),.ok zLia1,Zeo,Zeo,.ok (.cell (.var 0) (.var 5) 3 2),.ok Zit,.ok (.conv .i64 Zit),.ok zLia2,Zeo,.idx (.var 0) (.var 5) 3 1,Zjg,.ok zLia7,.ok Zir,.is Zir (.bool true),Zeo,.idx (.var 0) (.var 5) 3 1,Zjg,.ok Zjh,.ok (.bin .rem Zjh (.con (.int .u8 2))),.ok (.conv .i64 (.bin .rem Zjh (.con (.int .u8 2)))),.ok zLia3,.fn 8 (EPu 1) zLia5,.ok (.fn 1 zLia5 1),.fn 9 (wpw.EPw 3) zLia6,.ok (.fn 3 zLia6 1),.ok (rop ROp.neB [.fn 1 zLia5 1,.fn 3 zLia6 1]),.is (rop ROp.neB [.fn 1 zLia5 1,.fn 3 zLia6 1]) (.bool false),.fn 12 (ESw 5) [.fn 1 zLia5 0,.fn 3 zLia6 0],.is (.fn 5 [.fn 1 zLia5 0,.fn 3 zLia6 0] 0) (.bool true),.fn 13 (EAh 6) [.fn 1 zLia5 0,zLia1,zLia2],.ok (.fn 6 [.fn 1 zLia5 0,zLia1,zLia2] 0),.fn 14 (ERa 7) [.fn 3 zLia6 0,zLia1,zLia2],.ok (.fn 7 [.fn 3 zLia6 0,zLia1,zLia2] 0),.ok zLia20,.is zLia20 (.bool false),.ok zLia4,.fn 13 (EAh 6) [.fn 1 zLia5 0,zLia4,zLia2],.ok (.fn 6 [.fn 1 zLia5 0,zLia4,zLia2] 0),.ok zLia4,.fn 14 (ERa 7) [.fn 3 zLia6 0,zLia4,zLia2],.ok (.fn 7 [.fn 3 zLia6 0,zLia4,zLia2] 0),.ok zLia21,.is zLia21 (.bool false),.ok Zgr,.ok (.var 1),.ok (.var 2),.ok Zgr,.ok (.var 6),.ok (.var 7),.ok (.var 8),.ok (.var 9)],[.var 0,.var 1,.var 2,.fn 1 zLia5 0,.fn 3 zLia6 0,Zgr,.var 6,.var 7,.var 8,.var 9]):=by kernel_rfl
theorem bd:segTo Try.prog (orcFn tabL) 10000 lpA shA [1,0,1,0,0] shA [(0,0)] hL=some (.normal,[Zhv,.ok Zgq,.is Zgq (.bool true),Zeo,.idx (.var 0) (.var 5) 3 2,.ok (.cell (.var 0) (.var 5) 3 1),.ok Ziu,.ok (.conv .i64 Ziu),.ok zLia1,Zeo,Zeo,.ok (.cell (.var 0) (.var 5) 3 2),.ok Zit,.ok (.conv .i64 Zit),.ok zLia2,Zeo,.idx (.var 0) (.var 5) 3 1,Zjg,.ok zLia7,.ok Zir,.is Zir (.bool false),.fn 10 (EDw 2) [.var 3,zLia1],.fn 11 (wdp.EDr 4) [.var 4,zLia1],.fn 12 (ESw 5) [zLia8,zLia9],.is (.fn 5 [zLia8,zLia9] 0) (.bool true),.fn 13 (EAh 6) [zLia8,zLia1,zLia2],.ok (.fn 6 [zLia8,zLia1,zLia2] 0),.fn 14 (ERa 7) [zLia9,zLia1,zLia2],.ok (.fn 7 [zLia9,zLia1,zLia2] 0),.ok zLia23,.is zLia23 (.bool false),.ok zLia4,.fn 13 (EAh 6) [zLia8,zLia4,zLia2],.ok (.fn 6 [zLia8,zLia4,zLia2] 0),.ok zLia4,.fn 14 (ERa 7) [zLia9,zLia4,zLia2],.ok (.fn 7 [zLia9,zLia4,zLia2] 0),.ok zLia24,.is zLia24 (.bool false),.ok Zgr,.ok (.var 1),.ok (.var 2),.ok Zgr,.ok (.var 6),.ok (.var 7),.ok (.var 8),.ok (.var 9)],[.var 0,.var 1,.var 2,zLia8,zLia9,Zgr,.var 6,.var 7,.var 8,.var 9]):=by kernel_rfl
theorem post:segTo Try.prog (orcFn tabL) 10000 (flA.drop 8) shA [1,1,1] shR [] hL=some (.ret,[.fn 8 (EPu 1) Zgt,.ok (.fn 1 Zgt 1),.fn 9 (wpw.EPw 3) Zgs,.ok (.fn 3 Zgs 1),.ok (rop ROp.eqB [.fn 1 Zgt 1,.fn 3 Zgs 1]),.is (rop ROp.eqB [.fn 1 Zgt 1,.fn 3 Zgs 1]) (.bool true),.fn 12 (ESw 5) [.fn 1 Zgt 0,.fn 3 Zgs 0],.is (.fn 5 [.fn 1 Zgt 0,.fn 3 Zgs 0] 0) (.bool true),.fn 13 (EAh 6) [.var 3,.var 1,.var 2],.ok (.fn 6 [.var 3,.var 1,.var 2] 0),.fn 14 (ERa 7) [.var 4,.var 1,.var 2],.ok (.fn 7 [.var 4,.var 1,.var 2] 0),.ok zLia22,.is zLia22 (.bool true),.ok (.con (.bool true))],[.con (.bool true)]):=by kernel_rfl
theorem pos3:0 < 3:=by decide
abbrev E3:=encK 3 pos3
theorem cutA:flA=flA.take 7++.block (Zb1 (nth flA 7)) (.loop (Zbn (nth flA 7))) :: flA.drop 8:=by kernel_rfl
def ELaw (k:Nat):FnE:={ k:=k,ins:=[none,some 4,none,none],leaks:=[],outs:=[none],kinds:=[.truth] }
def RL (ps qs:List PV):Prop:=∃ (l:List (Nat->Nat)) (x:LeM) (c f:Int),(∀ f ∈ l,∀ j,f j < 256)/\l.length<=9223372036854775807/\ps=pRow E3 l :: (p4 x++[pI c,pI f])/\qs=[pB true]
theorem fL:∀ ps q1 q2,RL ps q1->RL ps q2->q1=q2:=by
 rintro ps q1 q2 ⟨_,_,_,_,_,_,_,rfl⟩ ⟨_,_,_,_,_,_,_,rfl⟩;rfl
noncomputable def G:Fns:=fun k=>match k with | 1=>spec RPu | 2=>spec RDw | 3=>spec wpw.RPw | 4=>spec wdp.RDd | 5=>spec RSw | 6=>spec RAh | 7=>spec RRa | 8=>spec RTrue | _=>fun _=>none
theorem u1:ToldF 8 (EPu 1) (G 1):=toldPu 1
theorem u2:ToldF 10 (EDw 2) (G 2):=Zjj 2
theorem u3:ToldF 9 (wpw.EPw 3) (G 3):=wpw.toldPw 3
theorem u4:ToldF 11 (wdp.EDr 4) (G 4):=wdp.toldDr 4
theorem u5:ToldF 12 (ESw 5) (G 5):=toldSw 5
theorem u6:ToldF 13 (EAh 6) (G 6):=toldAh 6
theorem u7:ToldF 14 (ERa 7) (G 7):=toldRa 7
theorem u8:ToldF 7 (ETrue 8) (G 8):=wbg.begunLit 8
theorem G1 {M:List LeM} {c s f m:Int} (h:M.length<=999999):G 1 [pRow encL M,pI c,pI s,pI f,pI m]=some [pRow encL (putB M (c,s,f,m)).1,pB (putB M (c,s,f,m)).2]:=Za2 fPu ⟨M,(c,s,f,m),h,rfl,rfl⟩
theorem G2 {M:List LeM} {c:Int} (h:M.length<=1000000):G 2 [pRow encL M,pI c]=some [pRow encL (dropW M c)]:=Za2 fDw ⟨M,c,h,rfl,rfl⟩
theorem G3 {M:List LeM} {c s f m:Int} (h:M.length<=999999):G 3 [pRow encL M,pI c,pI s,pI f,pI m]=some [pRow encL (putD M (c,s,f,m)).1,pB (putD M (c,s,f,m)).2]:=Za2 wpw.fPw ⟨M,(c,s,f,m),h,rfl,rfl⟩
theorem G4 {M:List LeM} {c:Int} (h:M.length<=1000000):G 4 [pRow encL M,pI c]=some [pRow encL (dropW M c)]:=Za2 wdp.fDd ⟨M,c,h,rfl,rfl⟩
theorem G5 {M:List LeM} (h:M.length<=1000000):G 5 [pRow encL M,pRow encL M]=some [pB true]:=Za2 fSw ⟨M,M,h,h,rfl,by simp⟩
theorem G6 {M:List LeM} {c f:Int} (h:M.length<=1000000):G 6 [pRow encL M,pI c,pI f]=some [pB (Zbs M c f)]:=Za2 fAh ⟨M,c,f,h,rfl,rfl⟩
theorem G7 {M:List LeM} {c f:Int} (h:M.length<=1000000):G 7 [pRow encL M,pI c,pI f]=some [pB (Zbs M c f)]:=Za2 fRa ⟨M,c,f,h,rfl,rfl⟩
theorem G8:G 8 []=some [pB true]:=Za2 fTrue ⟨rfl,rfl⟩
theorem r_neB (b:Bool):ropPV .neB [pB b,pB b]=some (pB false):=by simp [ropPV]
theorem r_eqB (b:Bool):ropPV .eqB [pB b,pB b]=some (pB true):=by simp [ropPV]
theorem r_nil:PV.row 0 []=pRow encL []:=rfl
theorem k1:(EPu 1).k=1:=rfl
theorem k2:(EDw 2).k=2:=rfl
theorem k3:(wpw.EPw 3).k=3:=rfl
theorem k4:(wdp.EDr 4).k=4:=rfl
theorem k5:(ESw 5).k=5:=rfl
theorem k6:(EAh 6).k=6:=rfl
theorem k7:(ERa 7).k=7:=rfl
set_option maxHeartbeats 4000000 in
theorem told (k0:Nat):ToldF 3 (ELaw k0) (spec RL):=by
 refine Zg7 G _ (Zcx Try.prog 3) Try.func3 (by kernel_rfl) sh0 (by kernel_rfl) ?_ ?_
 ·intro ps qs h i hi
  obtain ⟨l,x,c,f,_,_,rfl,rfl⟩:=Za0 h
  simp [sh0] at hi
  match i,hi with
  | 0,hi=>simp at hi
  | 1,hi=>exact ⟨_,rfl,rfl⟩
  | 2,hi=>exact ⟨_,rfl,rfl⟩
  | 3,hi=>exact ⟨_,rfl,rfl⟩
  | 4,hi=>exact ⟨_,rfl,rfl⟩
  | 5,hi=>exact ⟨_,rfl,rfl⟩
  | 6,hi=>exact ⟨_,rfl,rfl⟩
  | i+7,hi=>simp at hi
 ·intro C ps qs hF h a w hsh
  obtain ⟨l,x,c,f,hz,hl,rfl,rfl⟩:=Za0 h
  obtain ⟨y0,y1,y2,y3⟩:=x
  simp only [p4,List.cons_append,List.nil_append] at *
  show wpL Try.prog flA _ a w
  have fin:∀ qs a1 w1,qs=[pB true]->Zay C shR qs a1 w1->(AX.ret=.normal->wpL Try.prog [] (fun e a' w'=>(e=.normal \/ e=.ret)/\∃ sh' ps' es,Zay C sh' ps' a' w'/\resTo Try.prog Try.f3 sh' (ELaw k0)=some es/\evs (fun i=>ps'[i]?) G es=some [pB true]) a1 w1)/\(AX.ret ≠ .normal->(AX.ret.to=.normal \/ AX.ret.to=.ret)/\∃ sh' ps' es,Zay C sh' ps' a1 w1/\resTo Try.prog Try.f3 sh' (ELaw k0)=some es/\evs (fun i=>ps'[i]?) G es=some [pB true]):=by
   rintro qs a1 w1 rfl h1
   exact ⟨fun h=>(by cases h),fun _=>⟨.inr rfl,shR,_,[SX.var 0],h1,by kernel_rfl,rfl⟩⟩
  by_cases hl1:30 < l.length
  ·rw [<- List.append_nil flA]
   refine Zao names_ok mixed_ok (Za8 _) q1 hsh ?_ (fun qs a1 w1 hq h1=>fin qs a1 w1 (by simp [evs,SX.ev] at hq;exact hq.symm) h1)
   simp only [fmC,fmN]
   simp [Zag,Zac,Base.ev,SX.ev,evs,Value.oneCell',hF,Zad,binPV,G8,u8]
   all_goals omega
  rw [cutA]
  refine Zao names_ok mixed_ok (Za8 _) pre hsh ?_ ?_
  ·simp only [fmC,fmN]
   simp [Zag,Zac,Base.ev,SX.ev,evs,Value.oneCell',hF,Zad,binPV,G8,u8]
   all_goals omega
  intro qs a1 w1 hq h1
  refine ⟨fun _=>?_,fun h=>absurd rfl h⟩
  simp [evs,SX.ev,r_nil] at hq
  subst hq
  refine Zc8 (fun q' a w=>∃ (i:Nat) (M:List LeM),i<=l.length/\q'=l.length - i/\M.length<=4/\U M/\Zay C shA [pRow E3 l,pI c,pI f,pRow encL M,pRow encL M,pI (i:Int),pI y0,pI y1,pI y2,pI y3] a w) ?_ (n:=l.length) ⟨0,[],by omega,by omega,by simp,u_nil,h1⟩
  rintro q' a w ⟨i,M,hi,rfl,hM,hU,hin⟩
  show wpL Try.prog lpA _ a w
  rw [<- List.append_nil lpA]
  by_cases hlt:i < l.length
  ·have hzi:=hz _ (List.getElem_mem hlt)
   have c0:Zcw (pRow E3 l) (pI (i:Int)) 3 0=some (pU (l[i] 0:Int)):=cellK 3 _ l i hlt 0 (by omega)
   have c1:Zcw (pRow E3 l) (pI (i:Int)) 3 1=some (pU (l[i] 1:Int)):=cellK 3 _ l i hlt 1 (by omega)
   have c2:Zcw (pRow E3 l) (pI (i:Int)) 3 2=some (pU (l[i] 2:Int)):=cellK 3 _ l i hlt 2 (by omega)
   have i1:=Zbd E3 l i 3 1 .i64 rfl hlt (by decide)
   have i2:=Zbd E3 l i 3 2 .i64 rfl hlt (by decide)
   have i3:=Zbd E3 l i 3 3 .i64 rfl hlt (by decide)
   have v3:IntKind.i64.wrap ((i:Int)+1)=(i:Int)+1:=wrapI _ (by omega) (by omega)
   generalize l[i]=g at *
   obtain ⟨x0,h0⟩:∃ x0:Nat,g 0 % 4=x0:=⟨_,rfl⟩
   obtain ⟨x1,h1'⟩:∃ x1:Nat,g 1 % 7=x1:=⟨_,rfl⟩
   obtain ⟨x2,h2'⟩:∃ x2:Nat,g 2 % 4=x2:=⟨_,rfl⟩
   obtain ⟨x3,h3'⟩:∃ x3:Nat,g 0 / 4=x3:=⟨_,rfl⟩
   obtain ⟨x4,h4'⟩:∃ x4:Nat,x3 % 2=x4:=⟨_,rfl⟩
   have t0:(g 0:Int).tmod 4=(x0:Int):=by rw [<- h0];rfl
   have t1:(g 1:Int).tmod 7=(x1:Int):=by rw [<- h1'];rfl
   have t2:(g 2:Int).tmod 4=(x2:Int):=by rw [<- h2'];rfl
   have t3:(g 0:Int).tdiv 4=(x3:Int):=by rw [<- h3'];rfl
   have hz0:=hzi 0
   have wq3:IntKind.u8.wrap (x3:Int)=(x3:Int):=IntWalk.u8_in _ ⟨by omega,by omega⟩
   have t4:(x3:Int).tmod 2=(x4:Int):=by rw [<- h4'];rfl
   have w1':IntKind.i64.wrap (x1:Int)=(x1:Int):=wrapI _ (by omega) (by omega)
   have w2':IntKind.i64.wrap (x2:Int)=(x2:Int):=wrapI _ (by omega) (by omega)
   have w4':IntKind.i64.wrap (x4:Int)=(x4:Int):=wrapI _ (by omega) (by omega)
   have wc:IntKind.i64.wrap (1+(x1:Int))=1+(x1:Int):=wrapI _ (by omega) (by omega)
   have wf:IntKind.i64.wrap (1+(x2:Int))=1+(x2:Int):=wrapI _ (by omega) (by omega)
   have wm:IntKind.i64.wrap (1+(x4:Int))=1+(x4:Int):=wrapI _ (by omega) (by omega)
   have wcc:IntKind.i64.wrap (1+(x1:Int)+1)=1+(x1:Int)+1:=wrapI _ (by omega) (by omega)
   by_cases d0:0 < x0
   ·have e1:=G1 (c:=1+(x1:Int)) (s:=(i:Int)) (f:=1+(x2:Int)) (m:=1+(x4:Int)) (show M.length<=999999 by omega)
    have e3:=G3 (c:=1+(x1:Int)) (s:=(i:Int)) (f:=1+(x2:Int)) (m:=1+(x4:Int)) (show M.length<=999999 by omega)
    rw [<- Zjm hU] at e3
    have hM2:=put_len (1+(x1:Int),(i:Int),1+(x2:Int),1+(x4:Int)) hM
    have hU2:=u_put hU (1+(x1:Int),(i:Int),1+(x2:Int),1+(x4:Int))
    generalize putB M (1+(x1:Int),(i:Int),1+(x2:Int),1+(x4:Int))=MB at *
    obtain ⟨M2,ok⟩:=MB
    simp only at e1 e3 hM2 hU2
    have e5:=G5 (M:=M2) (by omega)
    have e6:=G6 (M:=M2) (c:=1+(x1:Int)) (f:=1+(x2:Int)) (by omega)
    have e7:=G7 (M:=M2) (c:=1+(x1:Int)) (f:=1+(x2:Int)) (by omega)
    have e8:=G6 (M:=M2) (c:=1+(x1:Int)+1) (f:=1+(x2:Int)) (by omega)
    have e9:=G7 (M:=M2) (c:=1+(x1:Int)+1) (f:=1+(x2:Int)) (by omega)
    generalize Zbs M2 (1+(x1:Int)) (1+(x2:Int))=A1 at *
    generalize Zbs M2 (1+(x1:Int)+1) (1+(x2:Int))=A2 at *
    refine Zao names_ok mixed_ok (Za8 _) bp hin ?_ ?_
    ·simp only [fmC,fmN]
     simp [Zag,Zac,Base.ev,SX.ev,evs,Value.oneCell',hF,Zad,binPV,Zed,c0,c1,c2,i1,i2,i3,t0,t1,t2,t3,t4,wq3,w1',w2',w4',wc,wf,wm,wcc,v3,e1,e3,e5,e6,e7,e8,e9,u1,u3,u5,u6,u7,lineAll.k1,lineAll.k3,lineAll.k5,lineAll.k6,lineAll.k7,hlt,d0,r_neB]
    ·intro qs a1' w1 hq h1
     refine ⟨fun _=>.inl ⟨rfl,l.length - (i+1),by omega,i+1,M2,by omega,rfl,hM2,hU2,?_⟩,fun h=>absurd rfl h⟩
     simp [evs,SX.ev,hF,binPV,Zed,c0,c1,c2,t0,t1,t2,t3,t4,wq3,w1',w2',w4',wc,wf,wm,v3,e1,e3] at hq
     subst hq
     exact h1
   ·have d0':x0=0:=by omega
    have e2:=G2 (M:=M) (c:=1+(x1:Int)) (by omega)
    have e4:=G4 (M:=M) (c:=1+(x1:Int)) (by omega)
    have hM2:=Nat.le_trans (Zcd M (1+(x1:Int))) hM
    have hU2:=u_drop hU (1+(x1:Int))
    generalize dropW M (1+(x1:Int))=M2 at *
    have e5:=G5 (M:=M2) (by omega)
    have e6:=G6 (M:=M2) (c:=1+(x1:Int)) (f:=1+(x2:Int)) (by omega)
    have e7:=G7 (M:=M2) (c:=1+(x1:Int)) (f:=1+(x2:Int)) (by omega)
    have e8:=G6 (M:=M2) (c:=1+(x1:Int)+1) (f:=1+(x2:Int)) (by omega)
    have e9:=G7 (M:=M2) (c:=1+(x1:Int)+1) (f:=1+(x2:Int)) (by omega)
    generalize Zbs M2 (1+(x1:Int)) (1+(x2:Int))=A1 at *
    generalize Zbs M2 (1+(x1:Int)+1) (1+(x2:Int))=A2 at *
    refine Zao names_ok mixed_ok (Za8 _) bd hin ?_ ?_
    ·simp only [fmC,fmN]
     simp [Zag,Zac,Base.ev,SX.ev,evs,Value.oneCell',hF,Zad,binPV,Zed,c0,c1,c2,i1,i2,i3,t0,t1,t2,w1',w2',wc,wf,wcc,v3,e2,e4,e5,e6,e7,e8,e9,u2,u4,u5,u6,u7,lineAll.k2,lineAll.k4,lineAll.k5,lineAll.k6,lineAll.k7,hlt,d0',r_neB]
    ·intro qs a1' w1 hq h1
     refine ⟨fun _=>.inl ⟨rfl,l.length - (i+1),by omega,i+1,M2,by omega,rfl,hM2,hU2,?_⟩,fun h=>absurd rfl h⟩
     simp [evs,SX.ev,hF,binPV,Zed,c0,c1,c2,t0,t1,t2,w1',w2',wc,wf,v3,e2,e4] at hq
     subst hq
     exact h1
  ·have hie:i=l.length:=by omega
   subst hie
   refine Zao names_ok mixed_ok (Za8 _) ex hin ?_ ?_
   ·simp only [fmC,fmN]
    simp [Zag,Zac,Base.ev,SX.ev,evs,Value.oneCell',Zad,binPV]
   ·intro qs a1' w1 hq h1
    refine ⟨fun h=>(by cases h),fun _=>.inr (.inl ⟨by rw [show Zb1 (nth flA 7)=0 by kernel_rfl];rfl,?_⟩)⟩
    simp [evs,SX.ev] at hq
    subst hq
    have e1:=G1 (c:=y0) (s:=y1) (f:=y2) (m:=y3) (show M.length<=999999 by omega)
    have e3:=G3 (c:=y0) (s:=y1) (f:=y2) (m:=y3) (show M.length<=999999 by omega)
    rw [<- Zjm hU] at e3
    have hM2:=put_len (y0,y1,y2,y3) hM
    generalize putB M (y0,y1,y2,y3)=MB at *
    obtain ⟨M2,ok⟩:=MB
    simp only at e1 e3 hM2
    have e5:=G5 (M:=M2) (by omega)
    have e6:=G6 (M:=M) (c:=c) (f:=f) (by omega)
    have e7:=G7 (M:=M) (c:=c) (f:=f) (by omega)
    generalize Zbs M c f=A1 at *
    rw [<- List.append_nil (flA.drop 8)]
    refine Zao names_ok mixed_ok (Za8 _) post h1 ?_ (fun qs a1 w1 hq h1=>fin qs a1 w1 (by simp [evs,SX.ev] at hq;exact hq.symm) h1)
    simp only [fmC,fmN]
    simp [Zag,Zac,Base.ev,SX.ev,evs,Value.oneCell',hF,Zad,binPV,e1,e3,e5,e6,e7,u1,u3,u5,u6,u7,lineAll.k1,lineAll.k3,lineAll.k5,lineAll.k6,lineAll.k7,r_eqB]
theorem walk (w:World) (v:Value) (len:Nat) (Z:Nat->Nat->Int) (h:IsGrid 3 w v len Z) (cs:List Value) (hc:LKs [.int .i64,.int .i64,.int .i64,.int .i64] cs) (c:Int) (wc:(Lit.int .i64 c).wf=true) (f:Int) (wf:(Lit.int .i64 f).wf=true) :
  Calls Try.prog 3 #[v,.agg cs.toArray,.int .i64 c,.int .i64 f] w fun e w'=>e=.returned (.bool true)/\Ex w w':=by
 obtain ⟨l,hb,hr⟩:=gridK pos3 h
 obtain ⟨hcl,hck⟩:=hc
 match cs,hcl with
 | [x0,x1,x2,x3],_ =>
  obtain ⟨m1,rfl,_⟩:=hck 0 _ x0 rfl rfl
  obtain ⟨m2,rfl,_⟩:=hck 1 _ x1 rfl rfl
  obtain ⟨m3,rfl,_⟩:=hck 2 _ x2 rfl rfl
  obtain ⟨m4,rfl,_⟩:=hck 3 _ x3 rfl rfl
  refine told_true (told 0) rfl (us:=[v,.int .i64 m1,.int .i64 m2,.int .i64 m3,.int .i64 m4,.int .i64 c,.int .i64 f]) (ps:=[pRow E3 l,pI m1,pI m2,pI m3,pI m4,pI c,pI f]) (Za2 fL ⟨l,(m1,m2,m3,m4),c,f,hb,reads_len hr,rfl,rfl⟩) rfl rfl (fun i p u hp hu=>?_)
  match i,hp,hu with
  | 0,hp,hu=>simp at hp hu;subst hp;subst hu;exact hr
  | 1,hp,hu=>simp at hp hu;subst hp;subst hu;exact Zcf rfl
  | 2,hp,hu=>simp at hp hu;subst hp;subst hu;exact Zcf rfl
  | 3,hp,hu=>simp at hp hu;subst hp;subst hu;exact Zcf rfl
  | 4,hp,hu=>simp at hp hu;subst hp;subst hu;exact Zcf rfl
  | 5,hp,hu=>simp at hp hu;subst hp;subst hu;exact Zcf rfl
  | 6,hp,hu=>simp at hp hu;subst hp;subst hu;exact Zcf rfl
  | i+7,hp,hu=>simp at hp
end Go.Proofs.Ytaondjmimobnbaa.lineAll
