/- LeaseAlone by the symbolic engine. -/
import Derived.Test.YtpnegheknjeljaaLeb13
import Derived.Test.YtpnegheknjeljaaLam
import Derived.Test.YtpnegheknjeljaaGrd
namespace Go.Proofs.Ytpnegheknjeljaa.leaseAlone
open Go Go.RowKit eng SX Fact fil lem lea leb lgw lec led grd lam
set_option linter.unusedVariables false
set_option linter.unusedSimpArgs false
set_option maxRecDepth 1000000

def EMyT:FnE:={ EMayL 6 with kinds:=[.truth] }
def tabA (f:FuncId):Option FnE:=cond (Nat.beq f 9) (some (EGr 1)) (cond (Nat.beq f 7) (some (EDr 2)) (cond (Nat.beq f 6) (some (EPr 3)) (cond (Nat.beq f 10) (some (EHo 4)) (cond (Nat.beq f 8) (some (ECl 5)) (cond (Nat.beq f 11) (some EMyT) (cond (Nat.beq f 5) (some (ETrue 8)) none))))))
noncomputable def flA:=flat (Zgw Try.prog 3)
noncomputable def lpA:=flat (Zbl (nth flA 8))
noncomputable def bdA:=flat (Zfv (nth lpA 2))
noncomputable def lpB:=flat (Zbl (nth bdA 4))
noncomputable def bdB:=flat (Zfv (nth lpB 2))
noncomputable def lpC:=flat (Zbl (nth bdB 2))
def sh0:Shape:=⟨[(0,.leaf)],[],[some false],128,3⟩
def shA:Shape:=⟨[(0,.leaf),(3,.leaf),(4,.leaf),(5,.leaf)],[],[some false,some true,none,none],128,3⟩
def shB:Shape:=⟨[(0,.leaf),(3,.leaf),(4,.leaf),(5,.leaf),(9,.leaf)],[],[some false,some true,none,none,none],128,3⟩
def shC:Shape:=⟨[(0,.leaf),(3,.leaf),(4,.leaf),(5,.leaf),(9,.leaf),(10,.leaf),(11,.leaf),(12,.leaf)],[],[some false,some true,none,none,none,none,none,none],128,3⟩
def shR:Shape:=⟨[(2,.leaf)],[],[none],128,3⟩
@[simp] def zLal1:List SX:=[.var 1,.var 2,.bin .add (.con (.int .i64 1)) (.conv .i64 (.bin .rem (.cell (.var 0) (.var 3) 4 1) (.con (.int .u8 3)))),.bin .add (.con (.int .i64 1)) (.conv .i64 (.bin .rem (.cell (.var 0) (.var 3) 4 2) (.con (.int .u8 2)))),.bin .add (.con (.int .i64 1)) (.conv .i64 (.bin .rem (.cell (.var 0) (.var 3) 4 3) (.con (.int .u8 2))))]
@[simp] def zLal2:List SX:=[.var 1,.bin .add (.con (.int .i64 1)) (.conv .i64 (.bin .rem (.cell (.var 0) (.var 3) 4 1) (.con (.int .u8 3)))),.bin .add (.con (.int .i64 1)) (.conv .i64 (.bin .rem (.cell (.var 0) (.var 3) 4 2) (.con (.int .u8 2)))),.bin .add (.con (.int .i64 1)) (.conv .i64 (.bin .rem (.cell (.var 0) (.var 3) 4 3) (.con (.int .u8 2)))),.bin .add (.var 2) (.con (.int .i64 20))]
@[simp] def zLal3:SX:=.bin .rem (.cell (.var 0) (.var 3) 4 1) (.con (.int .u8 3))
@[simp] def zLal4:SX:=.bin .rem (.cell (.var 0) (.var 3) 4 2) (.con (.int .u8 2))
@[simp] def zLal5:SX:=.bin .rem (.cell (.var 0) (.var 3) 4 0) (.con (.int .u8 4))
@[simp] def zLal6:SX:=.con (.int .i64 1)
@[simp] def zLal7:SX:=.bin .rem (.cell (.var 0) (.var 3) 4 3) (.con (.int .u8 2))
@[simp] def zLal8:SX:=.fn 4 [.var 1,.var 2,.var 7,.var 4] 0
@[simp] def zLal9:Fact:=.idx (.var 0) (.var 3) 4 4
@[simp] def Zjc:SX:=.bin .add (.var 2) (.conv .i64 (.bin .rem (.cell (.var 0) (.var 3) 4 3) (.con (.int .u8 30))))
@[simp] def Zkn:List SX:=[.fn 1 zLal2 0,.var 2,.bin .add zLal6 (.conv .i64 zLal3),.bin .add zLal6 (.conv .i64 zLal4)]
@[simp] def Zd0:SX:=.con (.int .i64 0)
@[simp] def Zgp:SX:=.bin .leq (.var 7) (.con (.int .i64 3))
@[simp] def Zgo:SX:=.bin .eql zLal5 (.con (.int .u8 0))
@[simp] def Zic:SX:=.bin .eql zLal8 (.con (.int .i64 2))
@[simp] def Zib:SX:=.bin .eql zLal5 (.con (.int .u8 1))
@[simp] def Zfc:SX:=.bin .add (.var 7) zLal6
@[simp] def Zia:SX:=.bin .add zLal6 (.conv .i64 zLal3)
@[simp] def Zh9:SX:=.bin .add zLal6 (.conv .i64 zLal4)
@[simp] def Zh8:SX:=.bin .add zLal6 (.conv .i64 zLal7)
@[simp] def Zg8:SX:=.cell (.var 0) (.var 3) 4 3
@[simp] def Zkm:SX:=.bin .gtr (.len (.var 0)) (.con (.int .i64 40))
@[simp] def Zkl:List SX:=[.var 0,.var 1,.var 2,.var 3,.var 4]
@[simp] def Zkk:SX:=.bin .eql (.len (.fn 5 zLal1 0)) Zd0
@[simp] def Zkj:SX:=.bin .leq (.var 4) (.con (.int .i64 2))
@[simp] def Zcb:Fact:=.ok (.var 2)
@[simp] def Zca:Fact:=.ok (.var 3)
@[simp] def Zh7:SX:=.bin .add (.var 6) zLal6
@[simp] def Zki:SX:=.bin .lss (.var 3) (.len (.var 0))
@[simp] def Zk8:Fact:=.fn 10 (EHo 4) [.var 1,.var 2,.var 7,.var 4]
@[simp] def Zkh:Fact:=.ok (.cell (.var 0) (.var 3) 4 1)
@[simp] def Zkg:Fact:=.ok (.cell (.var 0) (.var 3) 4 2)
@[simp] def Zkf:Fact:=.ok (.cell (.var 0) (.var 3) 4 0)
@[simp] def Zh6:SX:=.bin .neq zLal8 Zd0
@[simp] def Zke:Fact:=.idx (.var 0) (.var 3) 4 2
@[simp] def Zkd:Fact:=.idx (.var 0) (.var 3) 4 3
@[simp] def Zkc:Fact:=.idx (.var 0) (.var 3) 4 1
@[simp] def Zkb:SX:=.bin .gtr (.var 5) Zd0
@[simp] def Zk7:List SX:=[.var 0,.var 1,.var 2,.var 3]
@[simp] def Zka:Fact:=.ok (.conv .i64 zLal3)
@[simp] def Zj9:Fact:=.ok (.conv .i64 zLal4)
@[simp] def Zj8:Fact:=.ok (.conv .i64 zLal7)
@[simp] def Zfb:Fact:=.ok (.var 4)
theorem q1:segTo Try.prog (orcFn tabA) 10000 flA sh0 [1,1] shR []=some (.ret,[.fn 5 (ETrue 8) [],.is (.fn 8 [] 0) (.bool true),.ok (.len (.var 0)),.ok Zkm,.is Zkm (.bool true),.ok (.con (.bool true))],[.con (.bool true)]):=by kernel_rfl
theorem pre:segTo Try.prog (orcFn tabA) 10000 (flA.take 8) sh0 [1,0] shA []=some (.normal,[.fn 5 (ETrue 8) [],.is (.fn 8 [] 0) (.bool true),.ok (.len (.var 0)),.ok Zkm,.is Zkm (.bool false),.ok Zd0,.ok Zd0],[.var 0,.lit 0 [],Zd0,Zd0]):=by kernel_rfl
theorem hd:segTo Try.prog (orcFn tabA) 10000 (lpA.take 2) shA [1] shA []=some (.normal,[.ok (.len (.var 0)),.ok Zki,.is Zki (.bool true),Zcb,Zca],Zk7):=by kernel_rfl
theorem ex:segTo Try.prog (orcFn tabA) 10000 lpA shA [0] shA []=some (.exit 0,[.ok (.len (.var 0)),.ok Zki,.is Zki (.bool false),Zcb,Zca],Zk7):=by kernel_rfl
theorem bd0:segTo Try.prog (orcFn tabA) 10000 (bdA.take 4) shA [1] shB []=some (.normal,[zLal9,Zke,Zkh,.ok zLal3,Zka,.ok Zia,zLal9,Zkd,Zkg,.ok zLal4,Zj9,.ok Zh9,zLal9,zLal9,.ok Zg8,.ok zLal7,Zj8,.ok Zh8,zLal9,Zkc,Zkf,.ok zLal5,.ok Zgo,.is Zgo (.bool true),zLal9,zLal9,.ok Zg8,.ok (.bin .rem Zg8 (.con (.int .u8 30))),.ok (.conv .i64 (.bin .rem Zg8 (.con (.int .u8 30)))),.ok Zjc,.fn 6 (EPr 3) [.var 1,Zjc],.ok Zjc,Zca,.ok zLal6],[.var 0,.fn 3 [.var 1,Zjc] 0,Zjc,.var 3,zLal6]):=by kernel_rfl
theorem bd1:segTo Try.prog (orcFn tabA) 10000 (bdA.take 4) shA [0,1] shB []=some (.normal,[zLal9,Zke,Zkh,.ok zLal3,Zka,.ok Zia,zLal9,Zkd,Zkg,.ok zLal4,Zj9,.ok Zh9,zLal9,zLal9,.ok Zg8,.ok zLal7,Zj8,.ok Zh8,zLal9,Zkc,Zkf,.ok zLal5,.ok Zgo,.is Zgo (.bool false),.ok Zib,.is Zib (.bool true),.fn 7 (EDr 2) [.var 1,Zia,Zh9],Zcb,Zca,.ok zLal6],[.var 0,.fn 2 [.var 1,Zia,Zh9] 0,.var 2,.var 3,zLal6]):=by kernel_rfl
theorem bd2:segTo Try.prog (orcFn tabA) 10000 (bdA.take 4) shA [0,0,0] shB []=some (.normal,[zLal9,Zke,Zkh,.ok zLal3,Zka,.ok Zia,zLal9,Zkd,Zkg,.ok zLal4,Zj9,.ok Zh9,zLal9,zLal9,.ok Zg8,.ok zLal7,Zj8,.ok Zh8,zLal9,Zkc,Zkf,.ok zLal5,.ok Zgo,.is Zgo (.bool false),.ok Zib,.is Zib (.bool false),.fn 8 (ECl 5) zLal1,.ok (.len (.fn 5 zLal1 0)),.ok Zkk,.is Zkk (.bool false),Zcb,Zca,.ok zLal6],[.var 0,.var 1,.var 2,.var 3,zLal6]):=by kernel_rfl
theorem bd3:segTo Try.prog (orcFn tabA) 10000 (bdA.take 4) shA [0,0,1,0] shB []=some (.normal,[zLal9,Zke,Zkh,.ok zLal3,Zka,.ok Zia,zLal9,Zkd,Zkg,.ok zLal4,Zj9,.ok Zh9,zLal9,zLal9,.ok Zg8,.ok zLal7,Zj8,.ok Zh8,zLal9,Zkc,Zkf,.ok zLal5,.ok Zgo,.is Zgo (.bool false),.ok Zib,.is Zib (.bool false),.fn 8 (ECl 5) zLal1,.ok (.len (.fn 5 zLal1 0)),.ok Zkk,.is Zkk (.bool true),.ok (.bin .add (.var 2) (.con (.int .i64 20))),.fn 9 (EGr 1) zLal2,.fn 10 (EHo 4) Zkn,.ok (.fn 4 Zkn 0),.ok (.bin .lss (.fn 4 Zkn 0) Zh8),.is (.bin .lss (.fn 4 Zkn 0) Zh8) (.bool false),Zcb,Zca,.ok zLal6],[.var 0,.fn 1 zLal2 0,.var 2,.var 3,zLal6]):=by kernel_rfl
theorem bhd:segTo Try.prog (orcFn tabA) 10000 (lpB.take 2) shB [1] shB []=some (.normal,[.ok Zkj,.is Zkj (.bool true),Zcb,Zca,Zfb],Zkl):=by kernel_rfl
theorem bex:segTo Try.prog (orcFn tabA) 10000 lpB shB [0] shB []=some (.exit 3,[.ok Zkj,.is Zkj (.bool false),Zcb,Zca,Zfb],Zkl):=by kernel_rfl
theorem b0:segTo Try.prog (orcFn tabA) 10000 (bdB.take 2) shB [] shC []=some (.normal,[Zcb,Zca,Zfb,.ok Zd0,.ok Zd0,.ok zLal6],[.var 0,.var 1,.var 2,.var 3,.var 4,Zd0,Zd0,zLal6]):=by kernel_rfl
theorem c0:segTo Try.prog (orcFn tabA) 10000 lpC shC [1,0,0] shC []=some (.normal,[.ok Zgp,.is Zgp (.bool true),Zk8,.ok zLal8,.ok Zh6,.is Zh6 (.bool false),.ok Zic,.is Zic (.bool false),.ok Zfc,Zcb,Zca,Zfb,.ok (.var 5),.ok (.var 6),.ok Zfc],[.var 0,.var 1,.var 2,.var 3,.var 4,.var 5,.var 6,Zfc]):=by kernel_rfl
theorem c1:segTo Try.prog (orcFn tabA) 10000 lpC shC [1,1,0] shC []=some (.normal,[.ok Zgp,.is Zgp (.bool true),Zk8,.ok zLal8,.ok Zh6,.is Zh6 (.bool true),.ok Zh7,.ok Zic,.is Zic (.bool false),.ok Zfc,Zcb,Zca,Zfb,.ok (.var 5),.ok Zh7,.ok Zfc],[.var 0,.var 1,.var 2,.var 3,.var 4,.var 5,Zh7,Zfc]):=by kernel_rfl
theorem c2:segTo Try.prog (orcFn tabA) 10000 lpC shC [1,1,1] shC []=some (.normal,[.ok Zgp,.is Zgp (.bool true),Zk8,.ok zLal8,.ok Zh6,.is Zh6 (.bool true),.ok Zh7,.ok Zic,.is Zic (.bool true),.ok (.bin .add (.var 5) zLal6),.ok Zfc,Zcb,Zca,Zfb,.ok (.bin .add (.var 5) zLal6),.ok Zh7,.ok Zfc],[.var 0,.var 1,.var 2,.var 3,.var 4,.bin .add (.var 5) zLal6,Zh7,Zfc]):=by kernel_rfl
theorem cex:segTo Try.prog (orcFn tabA) 10000 lpC shC [0] shC []=some (.exit 5,[.ok Zgp,.is Zgp (.bool false),Zcb,Zca,Zfb,.ok (.var 5),.ok (.var 6),.ok (.var 7)],[.var 0,.var 1,.var 2,.var 3,.var 4,.var 5,.var 6,.var 7]):=by kernel_rfl
theorem d00:segTo Try.prog (orcFn tabA) 10000 (bdB.drop 3) shC [0,0] shB []=some (.normal,[.ok Zkb,.is Zkb (.bool false),Zcb,Zca,Zfb],Zkl):=by kernel_rfl
theorem d10:segTo Try.prog (orcFn tabA) 10000 (bdB.drop 3) shC [1,0] shB []=some (.normal,[.ok Zkb,.is Zkb (.bool true),.ok (.bin .gtr (.var 6) zLal6),.is (.bin .gtr (.var 6) zLal6) (.bool false),Zcb,Zca,Zfb],Zkl):=by kernel_rfl
theorem bst:segTo Try.prog (orcFn tabA) 10000 (lpB.drop 3) shB [] shB []=some (.normal,[.ok (.bin .add (.var 4) zLal6),Zcb,Zca,.ok (.bin .add (.var 4) zLal6)],[.var 0,.var 1,.var 2,.var 3,.bin .add (.var 4) zLal6]):=by kernel_rfl
theorem my:segTo Try.prog (orcFn tabA) 10000 (bdA.drop 5) shB [1] shA []=some (.normal,[.fn 11 EMyT [.var 1],.is (.fn 6 [.var 1] 0) (.bool true),Zcb,Zca],Zk7):=by kernel_rfl
theorem stp:segTo Try.prog (orcFn tabA) 10000 (lpA.drop 3) shA [] shA []=some (.normal,[.ok (.bin .add (.var 3) zLal6),Zcb,.ok (.bin .add (.var 3) zLal6)],[.var 0,.var 1,.var 2,.bin .add (.var 3) zLal6]):=by kernel_rfl
theorem post:segTo Try.prog (orcFn tabA) 10000 (flA.drop 9) shA [] shR []=some (.ret,[.ok (.con (.bool true))],[.con (.bool true)]):=by kernel_rfl

theorem pos4:0 < 4:=by decide
abbrev E4:=encK 4 pos4
theorem cutA:flA=flA.take 8++.block (Zba (nth flA 8)) (.loop (Zbl (nth flA 8))) :: flA.drop 9:=by kernel_rfl
theorem cutL:lpA=lpA.take 2++.block (Zba (nth lpA 2)) (Zfv (nth lpA 2)) :: lpA.drop 3:=by kernel_rfl
theorem cutB:bdA=bdA.take 4++.block (Zba (nth bdA 4)) (.loop (Zbl (nth bdA 4))) :: bdA.drop 5:=by kernel_rfl
theorem cutM:lpB=lpB.take 2++.block (Zba (nth lpB 2)) (Zfv (nth lpB 2)) :: lpB.drop 3:=by kernel_rfl
theorem cutC:bdB=bdB.take 2++.block (Zba (nth bdB 2)) (.loop (Zbl (nth bdB 2))) :: bdB.drop 3:=by kernel_rfl
def ELaw (k:Nat):FnE:={ k:=k,ins:=[none],leaks:=[],outs:=[none],kinds:=[.truth] }
def RL (ps qs:List PV):Prop:=∃ l:List (Nat->Nat),(∀ f ∈ l,∀ j,f j < 256)/\l.length<=9223372036854775807/\ps=[pRow E4 l]/\qs=[pB true]
theorem fL:∀ ps q1 q2,RL ps q1->RL ps q2->q1=q2:=by
 rintro ps q1 q2 ⟨_,_,_,_,rfl⟩ ⟨_,_,_,_,rfl⟩;rfl
noncomputable def G:Fns:=fun k=>match k with | 1=>spec RGr | 2=>spec RDr | 3=>spec RPr | 4=>spec RHo | 5=>spec RCl | 6=>spec RMy | 8=>spec RTrue | _=>fun _=>none
theorem u1:ToldF 9 (EGr 1) (G 1):=toldGr 1
theorem u2:ToldF 7 (EDr 2) (G 2):=toldDr 2
theorem u3:ToldF 6 (EPr 3) (G 3):=toldPr 3
theorem u4:ToldF 10 (EHo 4) (G 4):=toldHo 4
theorem u5:ToldF 8 (ECl 5) (G 5):=toldCl 5
theorem u6:ToldF 11 EMyT (G 6):=told_kinds (toldMy 6) rfl rfl rfl rfl rfl
theorem u8:ToldF 5 (ETrue 8) (G 8):=leb13.begunLit 8
theorem G1 {M:List LeM} {c f m u:Int} (h:MayL M) (hx:okL (c,f,m,u)) (hl:M.length < 1000000):G 1 [pRow encL M,pI c,pI f,pI m,pI u]=some [pRow encL (Zbb M (c,f,m,u))]:=Zav fGr ⟨M,(c,f,m,u),h,hx,hl,rfl,rfl⟩
theorem G2 {M:List LeM} {c f:Int} (h:M.length<=1000000):G 2 [pRow encL M,pI c,pI f]=some [pRow encL (dropL M c f)]:=Zav fDr ⟨M,c,f,h,rfl,rfl⟩
theorem G3 {M:List LeM} {t:Int} (h:M.length<=1000000):G 3 [pRow encL M,pI t]=some [pRow encL (Zhf M t)]:=Zav fPr ⟨M,t,h,rfl,rfl⟩
theorem G4 {M:List LeM} {t c f:Int} (h:M.length<=1000000):G 4 [pRow encL M,pI t,pI c,pI f]=some [pI (Za7 M t c f)]:=Zav fHo ⟨M,t,c,f,h,rfl,rfl⟩
theorem G5 {M:List LeM} {t c f m:Int} (h:M.length<=1000000):G 5 [pRow encL M,pI t,pI c,pI f,pI m]=some [pRow encN (Zbm M t c f m)]:=Zav fCl ⟨M,t,c,f,m,h,rfl,rfl⟩
theorem G6 {M:List LeM} (h:MayL M):G 6 [pRow encL M]=some [pB true]:=Zav fMy ⟨M,h,rfl,rfl⟩
theorem G8:G 8 []=some [pB true]:=Zav fTrue ⟨rfl,rfl⟩
abbrev stA (l:List (Nat->Nat)) (M:List LeM) (t:Int) (i:Nat):List PV:=[pRow E4 l,pRow encL M,pI t,pI (i:Int)]
abbrev stB (l:List (Nat->Nat)) (M:List LeM) (t:Int) (i k:Nat):List PV:=[pRow E4 l,pRow encL M,pI t,pI (i:Int),pI (k:Int)]
abbrev stC (l:List (Nat->Nat)) (M:List LeM) (t:Int) (i k:Nat) (wr al:Int) (s:Nat):List PV:=[pRow E4 l,pRow encL M,pI t,pI (i:Int),pI (k:Int),pI wr,pI al,pI ((s:Int)+1)]
theorem r_nil:PV.row 0 []=pRow encL []:=rfl
theorem k1:(EGr 1).k=1:=rfl
theorem k2:(EDr 2).k=2:=rfl
theorem k3:(EPr 3).k=3:=rfl
theorem k4:(EHo 4).k=4:=rfl
theorem k5:(ECl 5).k=5:=rfl
theorem k6:EMyT.k=6:=rfl

set_option maxHeartbeats 4000000 in
theorem told (k0:Nat):ToldF 3 (ELaw k0) (spec RL):=by
 refine Zjs G _ (Zgw Try.prog 3) Try.func3 (by kernel_rfl) sh0 (by kernel_rfl) ?_ ?_
 ·intro ps qs h i hi
  obtain ⟨l,_,_,rfl,rfl⟩:=Zbd h
  simp [sh0] at hi
  match i,hi with
  | 0,hi=>simp at hi
  | i+1,hi=>simp at hi
 ·intro C ps qs hF h a w hsh
  obtain ⟨l,hz,hl,rfl,rfl⟩:=Zbd h
  show wpL Try.prog flA _ a w
  have fin:∀ qs a1 w1,qs=[pB true]->Zar C shR qs a1 w1->(AX.ret=.normal->wpL Try.prog [] (fun e a' w'=>(e=.normal \/ e=.ret)/\∃ sh' ps' es,Zar C sh' ps' a' w'/\resTo Try.prog Try.f3 sh' (ELaw k0)=some es/\evs (fun i=>ps'[i]?) G es=some [pB true]) a1 w1)/\(AX.ret ≠ .normal->(AX.ret.to=.normal \/ AX.ret.to=.ret)/\∃ sh' ps' es,Zar C sh' ps' a1 w1/\resTo Try.prog Try.f3 sh' (ELaw k0)=some es/\evs (fun i=>ps'[i]?) G es=some [pB true]):=by
   rintro qs a1 w1 rfl h1
   exact ⟨fun h=>(by cases h),fun _=>⟨.inr rfl,shR,_,[SX.var 0],h1,by kernel_rfl,rfl⟩⟩
  by_cases hl1:40 < l.length
  ·rw [<- List.append_nil flA]
   refine Zak names_ok mixed_ok (Zal _) q1 hsh ?_ (fun qs a1 w1 hq h1=>fin qs a1 w1 (by simp [evs,SX.ev] at hq;exact hq.symm) h1)
   simp only [fmC,fmN]
   simp [Zab,Zaa,Base.ev,SX.ev,evs,Value.oneCell',hF,Zag,binPV,G8,u8]
   all_goals omega
  rw [cutA]
  refine Zak names_ok mixed_ok (Zal _) pre hsh ?_ ?_
  ·simp only [fmC,fmN]
   simp [Zab,Zaa,Base.ev,SX.ev,evs,Value.oneCell',hF,Zag,binPV,G8,u8]
   all_goals omega
  intro qs a1 w1 hq h1
  refine ⟨fun _=>?_,fun h=>absurd rfl h⟩
  simp [evs,SX.ev,r_nil] at hq
  subst hq
  refine Zdn (fun q' a w=>∃ (i:Nat) (M:List LeM) (t:Int),i<=l.length/\q'=l.length - i/\Al M t/\M.length<=i/\0<=t/\t<=29 * (i:Int)/\Zar C shA (stA l M t i) a w) ?_ (n:=l.length) ⟨0,[],0,by omega,by omega,al_nil 0,by simp,by omega,by omega,h1⟩
  rintro q' a w ⟨i,M,t,hi,rfl,hM,hMl,ht0,ht1,hin⟩
  show wpL Try.prog lpA _ a w
  by_cases hlt:i < l.length
  ·have hzi:=hz _ (List.getElem_mem hlt)
   have c0:Zc2 (pRow E4 l) (pI (i:Int)) 4 0=some (pU (l[i] 0:Int)):=cellK 4 _ l i hlt 0 (by omega)
   have c1:Zc2 (pRow E4 l) (pI (i:Int)) 4 1=some (pU (l[i] 1:Int)):=cellK 4 _ l i hlt 1 (by omega)
   have c2:Zc2 (pRow E4 l) (pI (i:Int)) 4 2=some (pU (l[i] 2:Int)):=cellK 4 _ l i hlt 2 (by omega)
   have c3:Zc2 (pRow E4 l) (pI (i:Int)) 4 3=some (pU (l[i] 3:Int)):=cellK 4 _ l i hlt 3 (by omega)
   have i1:=Zda E4 l i 4 1 .i64 rfl hlt (by decide)
   have i2:=Zda E4 l i 4 2 .i64 rfl hlt (by decide)
   have i3:=Zda E4 l i 4 3 .i64 rfl hlt (by decide)
   have i4:=Zda E4 l i 4 4 .i64 rfl hlt (by decide)
   have v3:IntKind.i64.wrap ((i:Int)+1)=(i:Int)+1:=wrapI _ (by omega) (by omega)
   generalize l[i]=f at *
   obtain ⟨x0,h0⟩:∃ x0:Nat,f 0 % 4=x0:=⟨_,rfl⟩
   obtain ⟨x1,h1'⟩:∃ x1:Nat,f 1 % 3=x1:=⟨_,rfl⟩
   obtain ⟨x2,h2'⟩:∃ x2:Nat,f 2 % 2=x2:=⟨_,rfl⟩
   obtain ⟨x3,h3'⟩:∃ x3:Nat,f 3 % 2=x3:=⟨_,rfl⟩
   obtain ⟨y3,h4'⟩:∃ y3:Nat,f 3 % 30=y3:=⟨_,rfl⟩
   have t0:(f 0:Int).tmod 4=(x0:Int):=by rw [<- h0];rfl
   have t1:(f 1:Int).tmod 3=(x1:Int):=by rw [<- h1'];rfl
   have t2:(f 2:Int).tmod 2=(x2:Int):=by rw [<- h2'];rfl
   have t3:(f 3:Int).tmod 2=(x3:Int):=by rw [<- h3'];rfl
   have t4:(f 3:Int).tmod 30=(y3:Int):=by rw [<- h4'];rfl
   have wx1:IntKind.i64.wrap (x1:Int)=(x1:Int):=wrapI _ (by omega) (by omega)
   have wx2:IntKind.i64.wrap (x2:Int)=(x2:Int):=wrapI _ (by omega) (by omega)
   have wx3:IntKind.i64.wrap (x3:Int)=(x3:Int):=wrapI _ (by omega) (by omega)
   have wy3:IntKind.i64.wrap (y3:Int)=(y3:Int):=wrapI _ (by omega) (by omega)
   have wc:IntKind.i64.wrap (1+(x1:Int))=1+(x1:Int):=wrapI _ (by omega) (by omega)
   have wf:IntKind.i64.wrap (1+(x2:Int))=1+(x2:Int):=wrapI _ (by omega) (by omega)
   have wm:IntKind.i64.wrap (1+(x3:Int))=1+(x3:Int):=wrapI _ (by omega) (by omega)
   have wt:IntKind.i64.wrap (t+(y3:Int))=t+(y3:Int):=wrapI _ (by omega) (by omega)
   have wu:IntKind.i64.wrap (t+20)=t+20:=wrapI _ (by omega) (by omega)
   have hx0:x0 < 4:=by omega
   have hx1:x1 < 3:=by omega
   have hx2:x2 < 2:=by omega
   have hx3:x3 < 2:=by omega
   have hy3:y3 < 30:=by omega
   clear h0 h1' h2' h3' h4' hzi
   let Q:Exit->Act->World->Prop:=fun e a' w'=>(e=.normal/\∃ n',n' < l.length - i/\∃ (j:Nat) (M:List LeM) (t:Int),j<=l.length/\n'=l.length - j/\Al M t/\M.length<=j/\0<=t/\t<=29 * (j:Int)/\Zar C shA (stA l M t j) a' w') \/ (e=.exit (Zba (nth flA 8))/\wpL Try.prog (flA.drop 9) (fun e a' w'=>(e=.normal \/ e=.ret)/\∃ sh' ps' es,Zar C sh' ps' a' w'/\resTo Try.prog Try.f3 sh' (ELaw k0)=some es/\evs (fun i=>ps'[i]?) G es=some [pB true]) a' w') \/ (e=.ret/\(((Exit.ret=.normal) \/ Exit.ret=.ret)/\∃ sh' ps' es,Zar C sh' ps' a' w'/\resTo Try.prog Try.f3 sh' (ELaw k0)=some es/\evs (fun i=>ps'[i]?) G es=some [pB true]))
   let QB:Exit->Act->World->Prop:=fun e a' w'=>(e=.normal/\wpL Try.prog (lpA.drop 3) Q a' w') \/ (e=.exit (Zba (nth lpA 2))/\wpL Try.prog (lpA.drop 3) Q a' w') \/ (e=.ret/\Q .ret a' w') \/ (∃ j,j ≠ (Zba (nth lpA 2))/\e=.exit j/\Q (.exit j) a' w') \/ (∃ ch,e=.panic ch/\Q (.panic ch) a' w')
   have stp':∀ (M2:List LeM) (t2:Int),Al M2 t2->M2.length<=i+1->0<=t2->t2<=29 * ((i:Int)+1)->∀ a w,Zar C shA (stA l M2 t2 i) a w->wpL Try.prog (lpA.drop 3) Q a w:=by
    intro M2 t2 hM2 hl2 h20 h21 a w hin
    rw [<- List.append_nil (lpA.drop 3)]
    refine Zak names_ok mixed_ok (Zal _) stp hin ?_ ?_
    ·simp only [fmC,fmN]
     simp [Zab,Zaa,Base.ev,SX.ev,evs,Value.oneCell',binPV,v3]
    ·intro qs a1' w1 hq h1
     refine ⟨fun _=>.inl ⟨rfl,l.length - (i+1),by omega,i+1,M2,t2,by omega,rfl,hM2,hl2,h20,by omega,?_⟩,fun h=>absurd rfl h⟩
     simp [evs,SX.ev,binPV,v3] at hq
     subst hq
     exact h1
   have rest:∀ (M2:List LeM) (t2:Int),Al M2 t2->M2.length<=i+1->0<=t2->t2<=29 * ((i:Int)+1)->∀ a w,Zar C shB (stB l M2 t2 i 1) a w->wpL Try.prog (.block (Zba (nth bdA 4)) (.loop (Zbl (nth bdA 4))) :: bdA.drop 5) QB a w:=by
    intro M2 t2 hM2 hl2 h20 h21 a w hin
    have hm2:=hM2.may.1
    refine Zdn (fun q' a w=>∃ k:Nat,1<=k/\k<=3/\q'=3 - k/\Zar C shB (stB l M2 t2 i k) a w) ?_ (n:=2) ⟨1,by omega,by omega,by omega,hin⟩
    rintro q' a w ⟨k,hk1,hk4,rfl,hin⟩
    show wpL Try.prog lpB _ a w
    by_cases hk3:k<=2
    ·rw [cutM]
     have vk:IntKind.i64.wrap ((k:Int)+1)=(k:Int)+1:=wrapI _ (by omega) (by omega)
     refine Zak names_ok mixed_ok (Zal _) bhd hin ?_ ?_
     ·simp only [fmC,fmN]
      simp [Zab,Zaa,Base.ev,SX.ev,evs,Value.oneCell',binPV]
      all_goals omega
     intro qs a2' w2 hq h2
     refine ⟨fun _=>?_,fun h=>absurd rfl h⟩
     simp [evs,SX.ev] at hq
     subst hq
     refine block_in ?_
     show wpL Try.prog bdB _ a2' w2
     rw [cutC]
     refine Zak names_ok mixed_ok (Zal _) b0 h2 (by simp [Base.ev,SX.ev,Value.oneCell']) ?_
     intro qs a3' w3 hq h3
     refine ⟨fun _=>?_,fun h=>absurd rfl h⟩
     simp [evs,SX.ev] at hq
     subst hq
     refine Zdn (fun q' a w=>∃ s:Nat,s<=3/\q'=3 - s/\Zar C shC (stC l M2 t2 i k (cntW M2 t2 k s) (cntA M2 t2 k s) s) a w) ?_ (n:=3) ⟨0,by omega,by omega,h3⟩
     rintro q' a w ⟨s,hs20,rfl,hin⟩
     show wpL Try.prog lpC _ a w
     rw [<- List.append_nil lpC]
     by_cases hslt:s < 3
     ·have vs:IntKind.i64.wrap ((s:Int)+1+1)=(s:Int)+1+1:=wrapI _ (by omega) (by omega)
      have e4:=G4 (t:=t2) (c:=(s:Int)+1) (f:=(k:Int)) hm2
      have hr:=holds_range hM2 ((s:Int)+1) (k:Int)
      obtain ⟨b1,b2,b3,b4⟩:=cnt_b M2 t2 k s
      have hA:cntA M2 t2 k (s+1)=cntA M2 t2 k s+(if Za7 M2 t2 ((s:Int)+1) k=0 then 0 else 1):=rfl
      have hW:cntW M2 t2 k (s+1)=cntW M2 t2 k s+(if Za7 M2 t2 ((s:Int)+1) k=2 then 1 else 0):=rfl
      have again:∀ (A' W':Int) qs a' w',A'=cntA M2 t2 k (s+1)->W'=cntW M2 t2 k (s+1)->qs=[pRow E4 l,pRow encL M2,pI t2,pI (i:Int),pI (k:Int),pI W',pI A',pI ((s:Int)+1+1)]->Zar C shC qs a' w'->∃ n',n' < 3 - s/\∃ s':Nat,s'<=3/\n'=3 - s'/\Zar C shC (stC l M2 t2 i k (cntW M2 t2 k s') (cntA M2 t2 k s') s') a' w':=by
       rintro A' W' qs a' w' rfl rfl rfl h
       exact ⟨3 - (s+1),by omega,s+1,by omega,rfl,h⟩
      clear stp' vk
      rw [hA,hW] at again
      clear hA hW
      generalize cntA M2 t2 k s=cA at hin b1 b2 again
      generalize cntW M2 t2 k s=cW at hin b3 b4 again
      generalize Za7 M2 t2 ((s:Int)+1) k=h at e4 hr again
      have va:IntKind.i64.wrap (cA+1)=cA+1:=wrapI _ (by omega) (by omega)
      have vw:IntKind.i64.wrap (cW+1)=cW+1:=wrapI _ (by omega) (by omega)
      rcases hr with rfl | rfl | rfl
      ·refine Zak names_ok mixed_ok (Zal _) leaseAlone.c0 hin ?_ (fun qs a3 w3 hq h3=>⟨fun _=>.inl ⟨rfl,again cA cW qs a3 w3 (by simp) (by simp) (by simp [evs,SX.ev,binPV,vs] at hq;exact hq.symm) h3⟩,fun h=>absurd rfl h⟩)
       simp only [fmC,fmN]
       simp [Zab,Zaa,Base.ev,SX.ev,evs,Value.oneCell',hF,binPV,vs,e4,u4,leaseAlone.k4]
       all_goals omega
      ·refine Zak names_ok mixed_ok (Zal _) leaseAlone.c1 hin ?_ (fun qs a3 w3 hq h3=>⟨fun _=>.inl ⟨rfl,again (cA+1) cW qs a3 w3 (by simp) (by simp) (by simp [evs,SX.ev,binPV,vs,va] at hq;exact hq.symm) h3⟩,fun h=>absurd rfl h⟩)
       simp only [fmC,fmN]
       simp [Zab,Zaa,Base.ev,SX.ev,evs,Value.oneCell',hF,binPV,vs,va,e4,u4,leaseAlone.k4]
       all_goals omega
      ·refine Zak names_ok mixed_ok (Zal _) leaseAlone.c2 hin ?_ (fun qs a3 w3 hq h3=>⟨fun _=>.inl ⟨rfl,again (cA+1) (cW+1) qs a3 w3 (by simp) (by simp) (by simp [evs,SX.ev,binPV,vs,va,vw] at hq;exact hq.symm) h3⟩,fun h=>absurd rfl h⟩)
       simp only [fmC,fmN]
       simp [Zab,Zaa,Base.ev,SX.ev,evs,Value.oneCell',hF,binPV,vs,va,vw,e4,u4,leaseAlone.k4]
       all_goals omega
     ·obtain rfl:s=3:=by omega
      obtain ⟨b1,b2,b3,b4⟩:=cnt_b M2 t2 k 3
      have he:=cnt_end hM2 (k:Int)
      generalize cntA M2 t2 k 3=cA at hin b1 b2 he
      generalize cntW M2 t2 k 3=cW at hin b3 b4 he
      refine Zak names_ok mixed_ok (Zal _) cex hin ?_ ?_
      ·simp only [fmC,fmN]
       simp [Zab,Zaa,Base.ev,SX.ev,evs,Value.oneCell',binPV]
      ·intro qs a4 w4 hq h4
       refine ⟨fun h=>(by cases h),fun _=>.inr (.inl ⟨by rw [show Zba (nth bdB 2)=5 by kernel_rfl];rfl,?_⟩)⟩
       simp [evs,SX.ev] at hq
       subst hq
       rw [<- List.append_nil (bdB.drop 3)]
       by_cases hw:0 < cW
       ·refine Zak names_ok mixed_ok (Zal _) d10 h4 ?_ ?_
        ·have hw1:=he hw
         simp only [fmC,fmN]
         simp [Zab,Zaa,Base.ev,SX.ev,evs,Value.oneCell',binPV,hw]
         all_goals omega
        ·intro qs a6 w6 hq h6
         refine ⟨fun _=>.inl ⟨rfl,?_⟩,fun h=>absurd rfl h⟩
         simp [evs,SX.ev] at hq
         subst hq
         rw [<- List.append_nil (lpB.drop 3)]
         refine Zak names_ok mixed_ok (Zal _) bst h6 ?_ ?_
         ·simp only [fmC,fmN]
          simp [Zab,Zaa,Base.ev,SX.ev,evs,Value.oneCell',binPV,vk]
         ·intro qs a5 w5 hq h5
          refine ⟨fun _=>.inl ⟨rfl,3 - (k+1),by omega,k+1,by omega,by omega,rfl,?_⟩,fun h=>absurd rfl h⟩
          simp [evs,SX.ev,binPV,vk] at hq
          subst hq
          exact h5
       ·refine Zak names_ok mixed_ok (Zal _) d00 h4 ?_ ?_
        ·simp only [fmC,fmN]
         simp [Zab,Zaa,Base.ev,SX.ev,evs,Value.oneCell',binPV,hw]
         all_goals omega
        ·intro qs a6 w6 hq h6
         refine ⟨fun _=>.inl ⟨rfl,?_⟩,fun h=>absurd rfl h⟩
         simp [evs,SX.ev] at hq
         subst hq
         rw [<- List.append_nil (lpB.drop 3)]
         refine Zak names_ok mixed_ok (Zal _) bst h6 ?_ ?_
         ·simp only [fmC,fmN]
          simp [Zab,Zaa,Base.ev,SX.ev,evs,Value.oneCell',binPV,vk]
         ·intro qs a5 w5 hq h5
          refine ⟨fun _=>.inl ⟨rfl,3 - (k+1),by omega,k+1,by omega,by omega,rfl,?_⟩,fun h=>absurd rfl h⟩
          simp [evs,SX.ev,binPV,vk] at hq
          subst hq
          exact h5
    ·rw [<- List.append_nil lpB]
     refine Zak names_ok mixed_ok (Zal _) bex hin ?_ ?_
     ·simp only [fmC,fmN]
      simp [Zab,Zaa,Base.ev,SX.ev,evs,Value.oneCell',binPV]
      all_goals omega
     ·intro qs a3' w3 hq h3
      refine ⟨fun h=>(by cases h),fun _=>.inr (.inl ⟨by rw [show Zba (nth bdA 4)=3 by kernel_rfl];rfl,?_⟩)⟩
      simp [evs,SX.ev] at hq
      subst hq
      have e6:=G6 hM2.may
      rw [<- List.append_nil (bdA.drop 5)]
      refine Zak names_ok mixed_ok (Zal _) my h3 ?_ (fun qs a4 w4 hq h4=>⟨fun _=>.inl ⟨rfl,stp' M2 t2 hM2 hl2 h20 h21 a4 w4 (by simp [evs,SX.ev] at hq;subst hq;exact h4)⟩,fun h=>absurd rfl h⟩)
      simp only [fmC,fmN]
      simp [Zab,Zaa,Base.ev,SX.ev,evs,Value.oneCell',hF,binPV,e6,u6,leaseAlone.k6]
   show wpL Try.prog lpA Q a w
   rw [cutL]
   refine Zak names_ok mixed_ok (Zal _) hd hin ?_ ?_
   ·simp only [fmC,fmN]
    simp [Zab,Zaa,Base.ev,SX.ev,evs,Value.oneCell',Zag,binPV]
    exact hlt
   intro qs a1' w1 hq h1
   refine ⟨fun _=>?_,fun h=>absurd rfl h⟩
   simp [evs,SX.ev] at hq
   subst hq
   refine block_in ?_
   show wpL Try.prog bdA QB a1' w1
   rw [cutB]
   clear stp'
   have hm1:=hM.may.1
   match x0,hx0 with
   | 0,_ =>
    have hx0:(f 0:Int).tmod 4=0:=t0
    have e3:=G3 (t:=t+(y3:Int)) hm1
    have hM2:=al_prune hM (t+(y3:Int))
    have hl2:(Zhf M (t+(y3:Int))).length<=i+1:=Nat.le_trans (List.length_filter_le _ _) (by omega)
    generalize Zhf M (t+(y3:Int))=M2 at *
    refine Zak names_ok mixed_ok (Zal _) leaseAlone.bd0 h1 ?_ (fun qs a2 w2 hq h2=>⟨fun _=>rest M2 _ hM2 hl2 (by omega) (by omega) a2 w2 (by simp [evs,SX.ev,hF,binPV,Zde,c0,c1,c2,c3,hx0,t1,t2,t3,t4,wx1,wx2,wx3,wy3,wc,wf,wm,wt,e3] at hq;subst hq;exact h2),fun h=>absurd rfl h⟩)
    simp only [fmC,fmN]
    simp [Zab,Zaa,Base.ev,SX.ev,evs,Value.oneCell',hF,binPV,Zde,c0,c1,c2,c3,i1,i2,i3,i4,hx0,t1,t2,t3,t4,wx1,wx2,wx3,wy3,wc,wf,wm,wt,e3,u3,leaseAlone.k3]
   | 1,_ =>
    have hx0:(f 0:Int).tmod 4=1:=t0
    have e2:=G2 (c:=1+(x1:Int)) (f:=1+(x2:Int)) hm1
    have hM2:=al_drop hM (1+(x1:Int)) (1+(x2:Int))
    have hl2:(dropL M (1+(x1:Int)) (1+(x2:Int))).length<=i+1:=Nat.le_trans (List.length_filter_le _ _) (by omega)
    generalize dropL M (1+(x1:Int)) (1+(x2:Int))=M2 at *
    refine Zak names_ok mixed_ok (Zal _) leaseAlone.bd1 h1 ?_ (fun qs a2 w2 hq h2=>⟨fun _=>rest M2 _ hM2 hl2 (by omega) (by omega) a2 w2 (by simp [evs,SX.ev,hF,binPV,Zde,c0,c1,c2,c3,hx0,t1,t2,t3,t4,wx1,wx2,wx3,wy3,wc,wf,wm,wt,e2] at hq;subst hq;exact h2),fun h=>absurd rfl h⟩)
    simp only [fmC,fmN]
    simp [Zab,Zaa,Base.ev,SX.ev,evs,Value.oneCell',hF,binPV,Zde,c0,c1,c2,c3,i1,i2,i3,i4,hx0,t1,t2,t3,t4,wx1,wx2,wx3,wy3,wc,wf,wm,wt,e2,u2,leaseAlone.k2]
   | x0+2,hx0 =>
    have n0:¬ (f 0:Int).tmod 4=0:=by rw [t0];omega
    have n1:¬ (f 0:Int).tmod 4=1:=by rw [t0];omega
    clear t0
    have e5:=G5 (t:=t) (c:=1+(x1:Int)) (f:=1+(x2:Int)) (m:=1+(x3:Int)) hm1
    cases hcl:Zbm M t (1+(x1:Int)) (1+(x2:Int)) (1+(x3:Int)) with
    | nil =>
     rw [hcl] at e5
     have hok:okL (1+(x1:Int),1+(x2:Int),1+(x3:Int),t+20):=by
      simp only [okL]
      omega
     have hMm:M.length < 1000000:=by omega
     have e1:=G1 hM.may hok hMm
     have hM2:=al_grant hM hok hMm (by omega) hcl
     have hge:=holds_ge hM hok hMm (by omega)
     have hl2:(Zbb M (1+(x1:Int),1+(x2:Int),1+(x3:Int),t+20)).length<=i+1:=Nat.le_trans (Zhj _ _) (by omega)
     generalize Zbb M (1+(x1:Int),1+(x2:Int),1+(x3:Int),t+20)=M2 at *
     have e4:=G4 (t:=t) (c:=1+(x1:Int)) (f:=1+(x2:Int)) hM2.may.1
     generalize Za7 M2 t (1+(x1:Int)) (1+(x2:Int))=hh at *
     refine Zak names_ok mixed_ok (Zal _) leaseAlone.bd3 h1 ?_ (fun qs a2 w2 hq h2=>⟨fun _=>rest M2 _ hM2 hl2 (by omega) (by omega) a2 w2 (by simp [evs,SX.ev,hF,binPV,Zde,c0,c1,c2,c3,n0,n1,t1,t2,t3,t4,wx1,wx2,wx3,wy3,wc,wf,wm,wu,e5,e1,e4,lenN] at hq;subst hq;exact h2),fun h=>absurd rfl h⟩)
     simp only [fmC,fmN]
     simp [Zab,Zaa,Base.ev,SX.ev,evs,Value.oneCell',hF,binPV,Zde,c0,c1,c2,c3,i1,i2,i3,i4,n0,n1,t1,t2,t3,t4,wx1,wx2,wx3,wy3,wc,wf,wm,wu,e5,e1,e4,lenN,u5,u1,u4,leaseAlone.k1,leaseAlone.k4,leaseAlone.k5]
     all_goals omega
    | cons z r =>
     rw [hcl] at e5
     have hcn:=Zhk M t (1+(x1:Int)) (1+(x2:Int)) (1+(x3:Int))
     rw [hcl] at hcn
     have hcp:0 < (z :: r).length:=by simp
     generalize z :: r=cl at e5 hcn hcp
     have hcz:¬ cl=[]:=fun h=>by subst h;simp at hcp
     refine Zak names_ok mixed_ok (Zal _) leaseAlone.bd2 h1 ?_ (fun qs a2 w2 hq h2=>⟨fun _=>rest M _ hM (by omega) (by omega) (by omega) a2 w2 (by simp [evs,SX.ev,hF,binPV,Zde,c0,c1,c2,c3,n0,n1,t1,t2,t3,t4,wx1,wx2,wx3,wy3,wc,wf,wm,wt,e5] at hq;subst hq;exact h2),fun h=>absurd rfl h⟩)
     simp only [fmC,fmN]
     simp [Zab,Zaa,Base.ev,SX.ev,evs,Value.oneCell',hF,binPV,Zde,c0,c1,c2,c3,i1,i2,i3,i4,n0,n1,t1,t2,t3,t4,wx1,wx2,wx3,wy3,wc,wf,wm,wt,e5,lenN,hcz,u5,leaseAlone.k5]
     all_goals omega
  ·have hie:i=l.length:=by omega
   subst hie
   rw [<- List.append_nil lpA]
   refine Zak names_ok mixed_ok (Zal _) ex hin ?_ ?_
   ·simp only [fmC,fmN]
    simp [Zab,Zaa,Base.ev,SX.ev,evs,Value.oneCell',Zag,binPV]
   ·intro qs a1' w1 hq h1
    refine ⟨fun h=>(by cases h),fun _=>.inr (.inl ⟨by rw [show Zba (nth flA 8)=0 by kernel_rfl];rfl,?_⟩)⟩
    simp [evs,SX.ev] at hq
    subst hq
    rw [<- List.append_nil (flA.drop 9)]
    refine Zak names_ok mixed_ok (Zal _) post h1 ?_ (fun qs a1 w1 hq h1=>fin qs a1 w1 (by simp [evs,SX.ev] at hq;exact hq.symm) h1)
    simp only [fmC,fmN]
    simp [Zab,Zaa,Base.ev,SX.ev,evs,Value.oneCell',Zag,binPV]
theorem walk (w:World) (v:Value) (len:Nat) (Z:Nat->Nat->Int) (h:IsGrid 4 w v len Z) :
  Calls Try.prog 3 #[v] w fun e w'=>e=.returned (.bool true)/\Ex w w':=by
 obtain ⟨l,hb,hr⟩:=gridK pos4 h
 refine told_true (told 0) rfl (us:=[v]) (ps:=[pRow E4 l]) (Zav fL ⟨l,hb,reads_len hr,rfl,rfl⟩) rfl rfl (fun i p u hp hu=>?_)
 match i,hp,hu with
 | 0,hp,hu=>simp at hp hu;subst hp;subst hu;exact hr
 | i+1,hp,hu=>simp at hp
end Go.Proofs.Ytpnegheknjeljaa.leaseAlone
