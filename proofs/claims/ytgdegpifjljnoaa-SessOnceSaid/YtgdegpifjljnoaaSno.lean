/- SessOnce by the symbolic engine. -/
import Derived.Test.YtgdegpifjljnoaaSjp
import Derived.Test.YtgdegpifjljnoaaSsf
import Derived.Test.YtgdegpifjljnoaaGrd
import Derived.Test.YtgdegpifjljnoaaRbt
namespace Go.Proofs.Ytgdegpifjljnoaa.sessOnce
open Go Go.RowKit eng SX Fact fil msm sjm sjd sjp grd
open sta (MarkM encM)
open mws (aP)
open myt (tP)
open fileFronts (Zac)
set_option linter.unusedVariables false
set_option linter.unusedSimpArgs false
set_option maxRecDepth 1000000
def hN (_:FuncId) (o:Oper):Option Hint:=match o.op with | .makeSlice ..=>some .own | .assign ..=>(match o.dst with | some 3=>some .own | _=>none) | .binOp ..=>(match o.dst with | some d=>cond (Nat.ble 60 d && Nat.ble d 125) (some .lazy) none | none=>none) | .pick ..=>(match o.dst with | some d=>cond (Nat.ble d 125) (some .lazy) none | none=>none) | .unOp ..=>(match o.dst with | some d=>cond (Nat.ble 60 d) (some .lazy) none | none=>none) | _=>none
def tabN (f:FuncId):Option FnE:=cond (Nat.beq f 7) (some (ETrue 1)) (cond (Nat.beq f 10) (some (EJu 2)) none)
noncomputable def flN:=flat (Zdy Try.prog 4)
noncomputable def lpN:=flat (Zfn (nth flN 7))
def ibx (k:Nat):BoxT:=⟨3,1,true,[],some k,false⟩
def tbk (k:Nat):BoxT:=⟨34,9,true,[],some k,false⟩
def mbk (k:Nat):BoxT:=⟨36,4,true,[],some k,false⟩
def shN:Shape:=⟨[(0,.leaf)],[],[some false],155,4⟩
def shNl:Shape:=⟨[(0,.leaf),(3,.own 0 2 1),(4,.own 1 3 9),(5,.own 2 4 4),(6,.leaf)],[ibx 2,tbk 3,mbk 4],[some false,none],155,4⟩
def shNR:Shape:=⟨[(2,.leaf)],[],[none],155,4⟩
@[simp] def zSno1:List SX:=[.con (.int .i64 0),.var 2,.var 3,.var 4,.con (.int .i64 5),.bin .add (.conv .i64 (.bin .rem (.cell (.var 0) (.var 1) 3 0) (.con (.int .u8 3)))) (.con (.int .i64 1)),.con (.int .i64 0),.bin .add (.con (.int .i64 1)) (.conv .i64 (.bin .rem (.cell (.var 0) (.var 1) 3 1) (.con (.int .u8 30)))),.con (.string { data:={ toList:=[] } }),.con (.int .i64 1),.con (.int .i64 0),.lit 0 []]
@[simp] def zSno2:SX:=.conv .i64 (.bin .rem (.cell (.var 0) (.var 1) 3 0) (.con (.int .u8 3)))
@[simp] def zSno3:SX:=.bin .add (.con (.int .i64 1)) (.conv .i64 (.bin .rem (.cell (.var 0) (.var 1) 3 1) (.con (.int .u8 30))))
@[simp] def zSno4:SX:=.bin .neq (.fn 2 zSno1 0) (.con (.int .i64 4))
@[simp] def zSno5:SX:=.bin .rem (.cell (.var 0) (.var 1) 3 1) (.con (.int .u8 30))
@[simp] def zSno6:SX:=.bin .add (.var 1) (.con (.int .i64 1))
@[simp] def zSno7:SX:=.bin .rem (.cell (.var 0) (.var 1) 3 2) (.con (.int .u8 3))
@[simp] def zSno8:SX:=.bin .add zSno2 (.con (.int .i64 1))
@[simp] def zSno9:SX:=.bin .lss zSno3 (.cell (.var 2) zSno2 1 0)
@[simp] def Zfy:SX:=.bin .lss (.var 1) (.len (.var 0))
@[simp] def Zgj:SX:=.bin .eql (.cell (.var 3) zSno2 9 3) zSno3
@[simp] def Zb7:Fact:=.idx (.var 0) (.var 1) 3 3
@[simp] def Zjb:Fact:=.ok (.bin .rem (.cell (.var 0) (.var 1) 3 0) (.con (.int .u8 3)))
@[simp] def Zoy:SX:=rop (ROp.rep [.int .i64 0,.int .i64 0,.int .i64 0,.int .i64 0,.int .i64 0,.int .i64 0,.int .i64 0,.int .i64 0,.string { data:={ toList:=[] } }]) [.con (.int .i64 3)]
@[simp] def Zeo:SX:=.con (.int .i64 0)
@[simp] def Zhy:SX:=.bin .eql (.cell (.var 4) zSno2 4 0) zSno3
@[simp] def Zkc:SX:=.bin .neq (.fn 2 zSno1 0) (.con (.int .i64 3))
@[simp] def Zja:Fact:=same (.len (.var 3)) (.len (.var 3))
@[simp] def Zi9:Fact:=same (.len (.var 4)) (.len (.var 4))
@[simp] def Zfx:Fact:=rng zSno2 (.len (.var 2))
@[simp] def Znq:SX:=rop (ROp.upd 1 0) [.var 2,zSno2,zSno3]
@[simp] def Zox:SX:=rop (ROp.rep [.int .i64 0,.int .i64 0,.int .i64 0,.int .i64 0]) [.con (.int .i64 3)]
@[simp] def Zi8:Fact:=.ok (.cell (.var 0) (.var 1) 3 0)
@[simp] def Zi7:Fact:=.ok (.cell (.var 0) (.var 1) 3 1)
@[simp] def Zfw:Fact:=.idx (.var 2) zSno2 1 1
@[simp] def zSno26:SX:=rop (ROp.upd 9 0) [.var 3,zSno2,.con (.int .i64 1),zSno8,Zeo,zSno3,Zeo,Zeo,Zeo,Zeo,.con (.string { data:={ toList:=[] } })]
@[simp] def Zkb:SX:=.bin .eql zSno7 (.con (.int .u8 0))
@[simp] def Zhx:Fact:=rng zSno2 (.len (.var 3))
@[simp] def Zka:SX:=.bin .neq (.fn 2 zSno1 4) zSno3
@[simp] def Zj9:SX:=.bin .neq (.fn 2 zSno1 2) zSno8
@[simp] def Znp:SX:=.bin .gtr (.len (.var 0)) (.con (.int .i64 25))
@[simp] def Zmb:Fact:=same (.len (.var 2)) (.len (.var 2))
@[simp] def Zi6:Fact:=.idx (.var 0) (.var 1) 3 1
@[simp] def Zi5:Fact:=.idx (.var 0) (.var 1) 3 2
@[simp] def Zfv:Fact:=.ok (.len (.var 0))
@[simp] def Zi4:Fact:=.is Zfy (.bool true)
@[simp] def Zi3:Fact:=.idx (.var 3) zSno2 9 4
@[simp] def Zno:List SX:=[.var 0,zSno6,.var 2,.var 3,.var 4]
@[simp] def Zi2:Fact:=.ok (.conv .i64 zSno5)
@[simp] def Znn:SX:=.bin .eql zSno7 (.con (.int .u8 1))
@[simp] def Zj8:Fact:=.is zSno9 (.bool false)
@[simp] def Zj7:Fact:=.is zSno4 (.bool false)
@[simp] def Zi1:Fact:=.fn 10 (EJu 2) zSno1
@[simp] def Zi0:Fact:=.ok (.fn 2 zSno1 0)
@[simp] def Ziz:Fact:=.ok (.fn 2 zSno1 1)
@[simp] def Ziy:Fact:=.ok (.fn 2 zSno1 2)
@[simp] def Zix:Fact:=.ok (.fn 2 zSno1 3)
@[simp] def Ziw:Fact:=.ok (.fn 2 zSno1 4)
@[simp] def Ziv:Fact:=.ok (.fn 2 zSno1 5)
@[simp] def Ziu:Fact:=.ok (.fn 2 zSno1 6)
@[simp] def Zit:Fact:=.ok (.fn 2 zSno1 7)
@[simp] def Zis:Fact:=.ok (.fn 2 zSno1 8)
@[simp] def Zir:Fact:=.ok (.fn 2 zSno1 9)
@[simp] def Zma:Fact:=rng zSno2 (.len (.var 4))
@[simp] def zSno55:SX:=rop (ROp.upd 4 0) [.var 4,zSno2,zSno3,Zeo,.con (.int .i64 1),Zeo]
@[simp] def Zj6:SX:=.con (.int .i64 3)
@[simp] def Zow:Fact:=same (.len (.var 2)) (.len Znq)
@[simp] def Znm:Fact:=.is Zgj (.bool false)
@[simp] def Zov:Fact:=.ok (.cell (.var 0) (.var 1) 3 2)
@[simp] def Znl:Fact:=.idx (.var 4) zSno2 4 1
@[simp] def Zou:SX:=.lit 3 [Zeo,Zeo,Zeo]
@[simp] def Znk:Fact:=.is zSno4 (.bool true)
theorem q1:segTo Try.prog (orcFn tabN) 10000 flN shN [1,1] shNR [] hN=some (.ret,[.fn 7 (ETrue 1) [],.is (.fn 1 [] 0) (.bool true),Zfv,.ok Znp,.is Znp (.bool true),.ok (.con (.bool true))],[.con (.bool true)]):=by kernel_rfl
theorem pre:segTo Try.prog (orcFn tabN) 10000 (flN.take 7) shN [1,0] shNl [(1,1),(2,0),(3,0)] hN=some (.normal,[.fn 7 (ETrue 1) [],.is (.fn 1 [] 0) (.bool true),Zfv,.ok Znp,.is Znp (.bool false),same Zj6 Zj6,upto Zj6 4294967296,same Zj6 Zj6,upto Zj6 4294967296,.ok Zeo,same (.len Zou) (.len Zou),same (.len Zoy) (.len Zoy),same (.len Zox) (.len Zox)],[.var 0,Zeo,Zou,Zoy,Zox]):=by kernel_rfl
theorem ex:segTo Try.prog (orcFn tabN) 10000 lpN shNl [0] shNl [(0,0),(1,0),(2,0)] hN=some (.exit 0,[Zfv,.ok Zfy,.is Zfy (.bool false),.ok (.var 1),Zmb,Zja,Zi9],[.var 0,.var 1,.var 2,.var 3,.var 4]):=by kernel_rfl
theorem rw:segTo Try.prog (orcFn tabN) 10000 lpN shNl [1,1,0,1] shNl [(0,0),(1,0),(2,0)] hN=some (.normal,[Zfv,.ok Zfy,Zi4,Zb7,Zi6,Zi8,Zjb,.ok zSno2,Zb7,Zi5,Zi7,.ok zSno5,Zi2,.ok zSno3,.ok zSno8,Zi1,Zi0,Ziz,Ziy,Zix,Ziw,Ziv,Ziu,Zit,Zis,Zir,Zfx,Zfw,.ok zSno9,.is zSno9 (.bool true),.ok (.bin .neq (.fn 2 zSno1 0) (.con (.int .i64 2))),.is (.bin .neq (.fn 2 zSno1 0) (.con (.int .i64 2))) (.bool false),.ok zSno4,Znk,.ok zSno6,.ok zSno6,Zmb,Zja,Zi9],Zno):=by kernel_rfl
theorem rt1:segTo Try.prog (orcFn tabN) 10000 lpN shNl [1,0,1,0,0,0,1] shNl [(0,0),(1,0),(2,0)] hN=some (.normal,[Zfv,.ok Zfy,Zi4,Zb7,Zi6,Zi8,Zjb,.ok zSno2,Zb7,Zi5,Zi7,.ok zSno5,Zi2,.ok zSno3,.ok zSno8,Zi1,Zi0,Ziz,Ziy,Zix,Ziw,Ziv,Ziu,Zit,Zis,Zir,Zfx,Zfw,.ok zSno9,Zj8,Zhx,Zi3,.ok Zgj,.is Zgj (.bool true),.ok Zkc,.is Zkc (.bool false),.ok Zka,.is Zka (.bool false),.ok zSno8,.ok Zj9,.is Zj9 (.bool false),.ok zSno4,Znk,.ok zSno6,.ok zSno6,Zmb,Zja,Zi9],Zno):=by kernel_rfl
theorem rt2:segTo Try.prog (orcFn tabN) 10000 lpN shNl [1,0,1,0,0,1,0,1] shNl [(0,0),(1,0),(2,0)] hN=some (.normal,[Zfv,.ok Zfy,Zi4,Zb7,Zi6,Zi8,Zjb,.ok zSno2,Zb7,Zi5,Zi7,.ok zSno5,Zi2,.ok zSno3,.ok zSno8,Zi1,Zi0,Ziz,Ziy,Zix,Ziw,Ziv,Ziu,Zit,Zis,Zir,Zfx,Zfw,.ok zSno9,Zj8,Zhx,Zi3,.ok Zgj,.is Zgj (.bool true),.ok Zkc,.is Zkc (.bool false),.ok Zka,.is Zka (.bool false),.ok zSno8,.ok Zj9,.is Zj9 (.bool true),Zhx,Zi3,.ok (.bin .neq (.cell (.var 3) zSno2 9 3) zSno3),.is (.bin .neq (.cell (.var 3) zSno2 9 3) zSno3) (.bool false),.ok zSno4,Znk,.ok zSno6,.ok zSno6,Zmb,Zja,Zi9],Zno):=by kernel_rfl
theorem rm:segTo Try.prog (orcFn tabN) 10000 lpN shNl [1,0,0,1,0,0,0,1] shNl [(0,0),(1,0),(2,0)] hN=some (.normal,[Zfv,.ok Zfy,Zi4,Zb7,Zi6,Zi8,Zjb,.ok zSno2,Zb7,Zi5,Zi7,.ok zSno5,Zi2,.ok zSno3,.ok zSno8,Zi1,Zi0,Ziz,Ziy,Zix,Ziw,Ziv,Ziu,Zit,Zis,Zir,Zfx,Zfw,.ok zSno9,Zj8,Zhx,Zi3,.ok Zgj,Znm,Zma,Znl,.ok Zhy,.is Zhy (.bool true),.ok Zkc,.is Zkc (.bool false),.ok Zka,.is Zka (.bool false),.ok zSno8,.ok Zj9,.is Zj9 (.bool false),.ok zSno4,Znk,.ok zSno6,.ok zSno6,Zmb,Zja,Zi9],Zno):=by kernel_rfl
theorem rf0:segTo Try.prog (orcFn tabN) 10000 lpN shNl [1,0,0,0,0,0,1] shNl [(0,0),(1,0),(2,0)] hN=some (.normal,[Zfv,.ok Zfy,Zi4,Zb7,Zi6,Zi8,Zjb,.ok zSno2,Zb7,Zi5,Zi7,.ok zSno5,Zi2,.ok zSno3,.ok zSno8,Zi1,Zi0,Ziz,Ziy,Zix,Ziw,Ziv,Ziu,Zit,Zis,Zir,Zfx,Zfw,.ok zSno9,Zj8,Zhx,Zi3,.ok Zgj,Znm,Zma,Znl,.ok Zhy,.is Zhy (.bool false),.ok zSno4,Zj7,.ok zSno4,Zj7,Zfx,Zfw,Zb7,Zb7,Zov,.ok zSno7,.ok Zkb,.is Zkb (.bool true),.ok zSno8,Zhx,.idx (.var 3) zSno2 9 9,.ok zSno6,.ok zSno6,Zow,same (.len (.var 3)) (.len zSno26),Zi9],[.var 0,zSno6,Znq,zSno26,.var 4]):=by kernel_rfl
theorem rf1:segTo Try.prog (orcFn tabN) 10000 lpN shNl [1,0,0,0,0,0,0,1] shNl [(0,0),(1,0),(2,0)] hN=some (.normal,[Zfv,.ok Zfy,Zi4,Zb7,Zi6,Zi8,Zjb,.ok zSno2,Zb7,Zi5,Zi7,.ok zSno5,Zi2,.ok zSno3,.ok zSno8,Zi1,Zi0,Ziz,Ziy,Zix,Ziw,Ziv,Ziu,Zit,Zis,Zir,Zfx,Zfw,.ok zSno9,Zj8,Zhx,Zi3,.ok Zgj,Znm,Zma,Znl,.ok Zhy,.is Zhy (.bool false),.ok zSno4,Zj7,.ok zSno4,Zj7,Zfx,Zfw,Zb7,Zb7,Zov,.ok zSno7,.ok Zkb,.is Zkb (.bool false),.ok Znn,.is Znn (.bool true),Zma,.idx (.var 4) zSno2 4 4,.ok zSno6,.ok zSno6,Zow,Zja,same (.len (.var 4)) (.len zSno55)],[.var 0,zSno6,Znq,.var 3,zSno55]):=by kernel_rfl
theorem rf2:segTo Try.prog (orcFn tabN) 10000 lpN shNl [1,0,0,0,0,0,0,0] shNl [(0,0),(1,0),(2,0)] hN=some (.normal,[Zfv,.ok Zfy,Zi4,Zb7,Zi6,Zi8,Zjb,.ok zSno2,Zb7,Zi5,Zi7,.ok zSno5,Zi2,.ok zSno3,.ok zSno8,Zi1,Zi0,Ziz,Ziy,Zix,Ziw,Ziv,Ziu,Zit,Zis,Zir,Zfx,Zfw,.ok zSno9,Zj8,Zhx,Zi3,.ok Zgj,Znm,Zma,Znl,.ok Zhy,.is Zhy (.bool false),.ok zSno4,Zj7,.ok zSno4,Zj7,Zfx,Zfw,Zb7,Zb7,Zov,.ok zSno7,.ok Zkb,.is Zkb (.bool false),.ok Znn,.is Znn (.bool false),.ok zSno6,.ok zSno6,Zow,Zja,Zi9],[.var 0,zSno6,Znq,.var 3,.var 4]):=by kernel_rfl
theorem pz:segTo Try.prog (orcFn tabN) 10000 (flN.drop 8) shNl [] shNR [] hN=some (.ret,[.ok (.con (.bool true))],[.con (.bool true)]):=by kernel_rfl
theorem pos3:0 < 3:=by decide
abbrev E3:=encK 3 pos3
theorem cutN:flN=flN.take 7++.block (Zgi (nth flN 7)) (.loop (Zfn (nth flN 7))) :: flN.drop 8:=by kernel_rfl
def ELaw (k:Nat):FnE:={ k:=k,ins:=[none],leaks:=[false],outs:=[none],kinds:=[.truth] }
def RL (ps qs:List PV):Prop:=∃ (l:List (Nat->Nat)),(∀ f ∈ l,∀ j,f j < 256)/\l.length<=9223372036854775807/\ps=[pRow E3 l]/\qs=[pB true]
theorem fL:∀ ps q1 q2,RL ps q1->RL ps q2->q1=q2:=by
 rintro ps q1 q2 ⟨_,_,_,_,rfl⟩ ⟨_,_,_,_,rfl⟩;rfl
noncomputable def G:Fns:=fun k=>match k with | 1=>spec RTrue | 2=>spec RJu | _=>fun _=>none
theorem u1:ToldF 7 (ETrue 1) (G 1):=sbg.begunLit 1
theorem u2:ToldF 10 (EJu 2) (G 2):=Zpd 2
theorem G1:G 1 []=some [pB true]:=Zbv fTrue ⟨rfl,rfl⟩
theorem k2:(EJu 2).k=2:=rfl
theorem G2 {sn:List Int} {td:List TellM} {mk:List MarkM} (l1:sn.length=3) (l2:td.length=3) (l3:mk.length=3) {c:Nat} (hc:c < 3) {q:Int} (hq:1<=q) {J:Int × TellM}
  (hJ:(if q < sn[c] then (2,tz) else if td[c].seq=q then (3,td[c]) else if mk[c].1=q then (3,⟨1,1+(c:Int),0,q,mk[c].2.1,mk[c].2.2.1,0,mk[c].2.2.2,e0⟩) else (4,tz))=J) :
  G 2 [pI 0,pRow encI sn,pRow encT td,pRow encM mk,pI 5,pI (1+(c:Int)),pI 0,pI q,pS ⟨⟨[]⟩⟩,pI 1,pI 0,.row 0 []]=some (pI J.1 :: tP J.2):=by
 have:=Zbv fJu (show RJu ([pI 0,pRow encI sn,pRow encT td,pRow encM mk]++aP ⟨5,1+(c:Int),0,q,e0,1,0,[]⟩) _ from ⟨0,sn,td,mk,⟨5,1+(c:Int),0,q,e0,1,0,[]⟩,by omega,by omega,by omega,⟨by show (-9223372036854775808:Int)<=1+(c:Int);omega,by show 1+(c:Int)<=9223372036854775807;omega⟩,rfl,rfl⟩)
 rw [Zil (i:=c) (by rw [l1,l3]) (by rw [l2,l3]) (by rw [l3];exact hc) (by show 1+(c:Int)=_;omega) hq] at this
 simp only [ne_eq,not_true_eq_false,if_false] at this
 rw [hJ] at this
 exact this
theorem upd3 {sn:List Int} {td:List TellM} {mk:List MarkM} (l1:sn.length=3) (l2:td.length=3) (l3:mk.length=3) {c:Nat} (hc:c < 3) (q:Int) :
  ropPV (.upd 1 0) [pRow encI sn,pI (c:Int),pI q]=some (pRow encI (sn.set c q)) ∧
  ropPV (.upd 9 0) [pRow encT td,pI (c:Int),pI 1,pI (1+(c:Int)),pI 0,pI q,pI 0,pI 0,pI 0,pI 0,pS ⟨⟨[]⟩⟩]=some (pRow encT (td.set c ⟨1,1+(c:Int),0,q,0,0,0,0,e0⟩)) ∧
  ropPV (.upd 4 0) [pRow encM mk,pI (c:Int),pI q,pI 0,pI 1,pI 0]=some (pRow encM (mk.set c (q,0,1,0))) :=
 ⟨Zlg encI sn c .i64 q (by omega),Zlg encT td c .i64 ⟨1,1+(c:Int),0,q,0,0,0,0,e0⟩ (by omega),Zlg encM mk c .i64 (q,0,1,0) (by omega)⟩
abbrev stN (l:List (Nat->Nat)) (i:Nat) (sn:List Int) (td:List TellM) (mk:List MarkM):List PV:=[pRow E3 l,pI (i:Int),pRow encI sn,pRow encT td,pRow encM mk]
set_option maxHeartbeats 4000000 in
theorem told (k0:Nat):ToldF 4 (ELaw k0) (spec RL):=by
 refine Zm9 G _ (Zdy Try.prog 4) Try.func4 (by kernel_rfl) shN (by kernel_rfl) ?_ ?_
 ·intro ps qs h
  obtain ⟨l,_,_,rfl,rfl⟩:=Zbk h
  exact Zg1 rfl
 ·intro C ps qs hF h a w hsh
  obtain ⟨l,hz,hl,rfl,rfl⟩:=Zbk h
  clear h
  show wpL Try.prog flN _ a w
  have fin:∀ qs a1 w1,qs=[pB true]->Zao C shNR qs a1 w1->(AX.ret=.normal->wpL Try.prog [] (fun e a' w'=>(e=.normal \/ e=.ret)/\∃ sh' ps' es,Zao C sh' ps' a' w'/\resTo Try.prog Try.f4 sh' (ELaw k0)=some es/\evs (fun i=>ps'[i]?) G es=some [pB true]) a1 w1)/\(AX.ret ≠ .normal->(AX.ret.to=.normal \/ AX.ret.to=.ret)/\∃ sh' ps' es,Zao C sh' ps' a1 w1/\resTo Try.prog Try.f4 sh' (ELaw k0)=some es/\evs (fun i=>ps'[i]?) G es=some [pB true]):=by
   rintro qs a1 w1 rfl h1
   exact ⟨nofun,fun _=>⟨.inr rfl,shNR,_,[SX.var 0],h1,by kernel_rfl,rfl⟩⟩
  have g1:=G1
  by_cases c1:25 < l.length
  ·have d1:(25:Int) < (l.length:Int):=by omega
   rw [<- List.append_nil flN]
   refine Zan names_ok mixed_ok (Zax tabN) q1 hsh ?_ (fun qs a1 w1 hq h1=>fin qs a1 w1 (by simp [evs,SX.ev] at hq;exact hq.symm) h1)
   simp [-Zac,Zab,Zaa,Base.ev,SX.ev,evs,Value.oneCell',hF,Zaf,binPV,g1,d1,sessOnce.u1]
  have d1:¬ (25:Int) < (l.length:Int):=by omega
  rw [cutN]
  refine Zan names_ok mixed_ok (Zax tabN) pre hsh ?_ ?_
  ·simp [-Zac,Zab,Zaa,Base.ev,SX.ev,evs,Value.oneCell',hF,Zaf,binPV,ropPV,g1,d1,sessOnce.u1]
   exact ⟨⟨3,rfl⟩,⟨3,rfl,by decide⟩,⟨3,rfl⟩,⟨3,rfl,by decide⟩,⟨3,rfl⟩,⟨3,rfl⟩,⟨3,rfl⟩⟩
  intro qs a1 w1 hq h1
  refine ⟨fun _=>?_,fun h=>absurd rfl h⟩
  replace h1:Zao C shNl (stN l 0 [0,0,0] (List.replicate 3 tz) (List.replicate 3 mz)) a1 w1:=by
   simp [evs,SX.ev,ropPV] at hq
   subst hq
   exact h1
  clear hq
  refine Zhq (fun q' a w=>∃ (i:Nat) (sn:List Int) (td:List TellM) (mk:List MarkM),i<=l.length/\q'=l.length - i/\sn.length=3/\td.length=3/\mk.length=3/\Zao C shNl (stN l i sn td mk) a w) ?_ (n:=l.length) ⟨0,_,_,_,by omega,by omega,rfl,rfl,rfl,h1⟩
  clear h1
  rintro q' a w ⟨i,sn,td,mk,hi,rfl,l1,l2,l3,hin⟩
  show wpL Try.prog lpN _ a w
  rw [<- List.append_nil lpN]
  by_cases hlt:i < l.length
  ·have hzi:=hz _ (List.getElem_mem hlt)
   have e0':Zbm (pRow E3 l) (pI (i:Int)) 3 0=some (pU (l[i] 0:Int)):=cellK 3 _ l i hlt 0 (by omega)
   have e1:Zbm (pRow E3 l) (pI (i:Int)) 3 1=some (pU (l[i] 1:Int)):=cellK 3 _ l i hlt 1 (by omega)
   have e2:Zbm (pRow E3 l) (pI (i:Int)) 3 2=some (pU (l[i] 2:Int)):=cellK 3 _ l i hlt 2 (by omega)
   have i1:=Za1 E3 l i 3 1 .i64 rfl hlt (by decide)
   have i2:=Za1 E3 l i 3 2 .i64 rfl hlt (by decide)
   have i3:=Za1 E3 l i 3 3 .i64 rfl hlt (by decide)
   have v3:IntKind.i64.wrap ((i:Int)+1)=(i:Int)+1:=wrapI _ (by omega) (by omega)
   generalize l[i]=f at *
   obtain ⟨c,hc⟩:∃ c:Nat,f 0 % 3=c:=⟨_,rfl⟩
   obtain ⟨z1,h1'⟩:∃ z1:Nat,f 1 % 30=z1:=⟨_,rfl⟩
   obtain ⟨z2,h2'⟩:∃ z2:Nat,f 2 % 3=z2:=⟨_,rfl⟩
   have t0:(f 0:Int).tmod 3=(c:Int):=by rw [<- hc];rfl
   have t1:(f 1:Int).tmod 30=(z1:Int):=by rw [<- h1'];rfl
   have t2:(f 2:Int).tmod 3=(z2:Int):=by rw [<- h2'];rfl
   have hc3:c < 3:=by omega
   have hz1:z1 < 30:=by omega
   clear hc h1' h2' hzi hz
   have wc:IntKind.i64.wrap (c:Int)=(c:Int):=wrapI _ (by omega) (by omega)
   have wz:IntKind.i64.wrap (z1:Int)=(z1:Int):=wrapI _ (by omega) (by omega)
   have w1:IntKind.i64.wrap (1+(c:Int))=1+(c:Int):=wrapI _ (by omega) (by omega)
   have w1':IntKind.i64.wrap ((c:Int)+1)=1+(c:Int):=by rw [Int.add_comm];exact w1
   obtain ⟨q,hq⟩:∃ q:Int,q=1+(z1:Int):=⟨_,rfl⟩
   have wq:IntKind.i64.wrap (1+(z1:Int))=q:=by rw [hq];exact wrapI _ (by omega) (by omega)
   have hq1:1<=q:=by omega
   clear hq hz1
   have b1:c < sn.length:=by omega
   have b2:c < td.length:=by omega
   have b3:c < mk.length:=by omega
   have g2:=fun J=>G2 (J:=J) l1 l2 l3 hc3 hq1
   obtain ⟨s1,s2,s3⟩:=upd3 l1 l2 l3 hc3 q
   have x1:=cellI sn c b1
   obtain ⟨-,-,-,x2,-,-,-,-,-⟩:=cellT td c b2
   obtain ⟨x3,-,-,-⟩:=Zpn mk c b3
   have j1:=Za1 encI sn c 1 1 .i64 rfl b1 (by decide)
   have j2:=Za1 encT td c 9 9 .i64 rfl b2 (by decide)
   have j4:=Za1 encT td c 9 4 .i64 rfl b2 (by decide)
   have j3:=Za1 encM mk c 4 4 .i64 rfl b3 (by decide)
   have j5:=Za1 encM mk c 4 1 .i64 rfl b3 (by decide)
   have hcI:(c:Int) < 3:=by omega
   have nxt:∀ sn' td' mk' a3 w3,sn'.length=3->td'.length=3->mk'.length=3->Zao C shNl (stN l (i+1) sn' td' mk') a3 w3->∃ n':Nat,n' < l.length - i/\∃ (i:Nat) (sn:List Int) (td:List TellM) (mk:List MarkM),i<=l.length/\n'=l.length - i/\sn.length=3/\td.length=3/\mk.length=3/\Zao C shNl (stN l i sn td mk) a3 w3 :=
    fun sn' td' mk' a3 w3 h1 h2 h3 h4=>⟨l.length - (i+1),by omega,i+1,sn',td',mk',by omega,rfl,h1,h2,h3,h4⟩
   have k1:(sn.set c q).length=3:=by simp [l1]
   have k2':(td.set c ⟨1,1+(c:Int),0,q,0,0,0,0,e0⟩).length=3:=by simp [l2]
   have k3:(mk.set c (q,0,1,0)).length=3:=by simp [l3]
   generalize sn[c]=s at *
   generalize td[c]=t at *
   generalize mk[c]=m at *
   obtain ⟨t1',t2',t3',t4',t5',t6',t7',t8',t9'⟩:=t
   simp only at x2 g2
   generalize sn.set c q=SN at *
   generalize td.set c ⟨1,1+(c:Int),0,q,0,0,0,0,e0⟩=TD at *
   generalize mk.set c (q,0,1,0)=MK at *
   by_cases hw:q < s
   ·have g2:=g2 _ (by rw [if_pos hw])
    simp only [tP,tz,e0] at g2
    refine Zan names_ok mixed_ok (Zax tabN) rw hin ?_ ?_
    ·simp [-Zac,Zab,Zaa,Base.ev,SX.ev,evs,Value.oneCell',hF,Zaf,binPV,Zaj,e0',e1,e2,i1,i2,i3,t0,t1,t2,wc,wz,w1,w1',wq,v3,g2,sessOnce.u2,sessOnce.k2,j1,j2,j3,j4,j5,x1,x2,x3,s1,s2,s3,hlt,l1,l2,l3,k1,k2',k3,hcI,hw]
     exact ⟨3,rfl⟩
    ·intro qs a3 w3 hq h3
     refine ⟨fun _=>.inl ⟨rfl,nxt sn td mk a3 w3 ‹_› ‹_› ‹_› ?_⟩,fun h=>absurd rfl h⟩
     simp [evs,SX.ev,hF,binPV,Zaj,e0',e1,e2,t0,t1,t2,wc,wz,w1,w1',wq,v3,s1,s2,s3] at hq
     subst hq
     exact h3
   ·by_cases ht:t4'=q
    ·have g2:=g2 _ (by rw [if_neg hw,if_pos ht])
     simp only [tP] at g2
     subst ht
     by_cases hto:t2'=1+(c:Int)
     ·subst hto
      refine Zan names_ok mixed_ok (Zax tabN) rt1 hin ?_ ?_
      ·simp [-Zac,Zab,Zaa,Base.ev,SX.ev,evs,Value.oneCell',hF,Zaf,binPV,Zaj,e0',e1,e2,i1,i2,i3,t0,t1,t2,wc,wz,w1,w1',wq,v3,g2,sessOnce.u2,sessOnce.k2,j1,j2,j3,j4,j5,x1,x2,x3,s1,s2,s3,hlt,l1,l2,l3,k1,k2',k3,hcI,hw]
       exact ⟨3,rfl⟩
      ·intro qs a3 w3 hq h3
       refine ⟨fun _=>.inl ⟨rfl,nxt sn td mk a3 w3 ‹_› ‹_› ‹_› ?_⟩,fun h=>absurd rfl h⟩
       simp [evs,SX.ev,hF,binPV,Zaj,e0',e1,e2,t0,t1,t2,wc,wz,w1,w1',wq,v3,s1,s2,s3] at hq
       subst hq
       exact h3
     ·have hto':¬ t2'=(c:Int)+1:=by omega
      refine Zan names_ok mixed_ok (Zax tabN) rt2 hin ?_ ?_
      ·simp [-Zac,Zab,Zaa,Base.ev,SX.ev,evs,Value.oneCell',hF,Zaf,binPV,Zaj,e0',e1,e2,i1,i2,i3,t0,t1,t2,wc,wz,w1,w1',wq,v3,g2,sessOnce.u2,sessOnce.k2,j1,j2,j3,j4,j5,x1,x2,x3,s1,s2,s3,hlt,l1,l2,l3,k1,k2',k3,hcI,hw,hto,hto']
       exact ⟨3,rfl⟩
      ·intro qs a3 w3 hq h3
       refine ⟨fun _=>.inl ⟨rfl,nxt sn td mk a3 w3 ‹_› ‹_› ‹_› ?_⟩,fun h=>absurd rfl h⟩
       simp [evs,SX.ev,hF,binPV,Zaj,e0',e1,e2,t0,t1,t2,wc,wz,w1,w1',wq,v3,s1,s2,s3] at hq
       subst hq
       exact h3
    ·by_cases hm:m.1=q
     ·have g2:=g2 _ (by rw [if_neg hw,if_neg ht,if_pos hm])
      simp only [tP,e0] at g2
      have hm':q=m.1:=hm.symm
      refine Zan names_ok mixed_ok (Zax tabN) rm hin ?_ ?_
      ·simp [-Zac,Zab,Zaa,Base.ev,SX.ev,evs,Value.oneCell',hF,Zaf,binPV,Zaj,e0',e1,e2,i1,i2,i3,t0,t1,t2,wc,wz,w1,w1',wq,v3,g2,sessOnce.u2,sessOnce.k2,j1,j2,j3,j4,j5,x1,x2,x3,s1,s2,s3,hlt,l1,l2,l3,k1,k2',k3,hcI,hw,ht,hm]
       exact ⟨3,rfl⟩
      ·intro qs a3 w3 hq h3
       refine ⟨fun _=>.inl ⟨rfl,nxt sn td mk a3 w3 ‹_› ‹_› ‹_› ?_⟩,fun h=>absurd rfl h⟩
       simp [evs,SX.ev,hF,binPV,Zaj,e0',e1,e2,t0,t1,t2,wc,wz,w1,w1',wq,v3,s1,s2,s3] at hq
       subst hq
       exact h3
     ·have g2:=g2 _ (by rw [if_neg hw,if_neg ht,if_neg hm])
      simp only [tP,tz,e0] at g2
      obtain ⟨y,hy⟩:∃ y:Int,(z2:Int)=y:=⟨_,rfl⟩
      rw [hy] at t2
      by_cases y0:y=0
      ·subst y0
       refine Zan names_ok mixed_ok (Zax tabN) rf0 hin ?_ ?_
       ·simp [-Zac,Zab,Zaa,Base.ev,SX.ev,evs,Value.oneCell',hF,Zaf,binPV,Zaj,e0',e1,e2,i1,i2,i3,t0,t1,t2,wc,wz,w1,w1',wq,v3,g2,sessOnce.u2,sessOnce.k2,j1,j2,j3,j4,j5,x1,x2,x3,s1,s2,s3,hlt,l1,l2,l3,k1,k2',k3,hcI,hw,ht,hm]
        exact ⟨3,rfl⟩
       ·intro qs a3 w3 hq h3
        refine ⟨fun _=>.inl ⟨rfl,nxt SN TD mk a3 w3 ‹_› ‹_› ‹_› ?_⟩,fun h=>absurd rfl h⟩
        simp [evs,SX.ev,hF,binPV,Zaj,e0',e1,e2,t0,t1,t2,wc,wz,w1,w1',wq,v3,s1,s2,s3] at hq
        subst hq
        exact h3
      ·by_cases y1:y=1
       ·subst y1
        refine Zan names_ok mixed_ok (Zax tabN) rf1 hin ?_ ?_
        ·simp [-Zac,Zab,Zaa,Base.ev,SX.ev,evs,Value.oneCell',hF,Zaf,binPV,Zaj,e0',e1,e2,i1,i2,i3,t0,t1,t2,wc,wz,w1,w1',wq,v3,g2,sessOnce.u2,sessOnce.k2,j1,j2,j3,j4,j5,x1,x2,x3,s1,s2,s3,hlt,l1,l2,l3,k1,k2',k3,hcI,hw,ht,hm]
         exact ⟨3,rfl⟩
        ·intro qs a3 w3 hq h3
         refine ⟨fun _=>.inl ⟨rfl,nxt SN td MK a3 w3 ‹_› ‹_› ‹_› ?_⟩,fun h=>absurd rfl h⟩
         simp [evs,SX.ev,hF,binPV,Zaj,e0',e1,e2,t0,t1,t2,wc,wz,w1,w1',wq,v3,s1,s2,s3] at hq
         subst hq
         exact h3
       ·refine Zan names_ok mixed_ok (Zax tabN) rf2 hin ?_ ?_
        ·simp [-Zac,Zab,Zaa,Base.ev,SX.ev,evs,Value.oneCell',hF,Zaf,binPV,Zaj,e0',e1,e2,i1,i2,i3,t0,t1,t2,wc,wz,w1,w1',wq,v3,g2,sessOnce.u2,sessOnce.k2,j1,j2,j3,j4,j5,x1,x2,x3,s1,s2,s3,hlt,l1,l2,l3,k1,k2',k3,hcI,hw,ht,hm,y0,y1]
         exact ⟨3,rfl⟩
        ·intro qs a3 w3 hq h3
         refine ⟨fun _=>.inl ⟨rfl,nxt SN td mk a3 w3 ‹_› ‹_› ‹_› ?_⟩,fun h=>absurd rfl h⟩
         simp [evs,SX.ev,hF,binPV,Zaj,e0',e1,e2,t0,t1,t2,wc,wz,w1,w1',wq,v3,s1,s2,s3] at hq
         subst hq
         exact h3
  ·have hie:i=l.length:=by omega
   subst hie
   refine Zan names_ok mixed_ok (Zax tabN) ex hin ?_ ?_
   ·simp [-Zac,Zab,Zaa,Base.ev,SX.ev,evs,Value.oneCell',Zaf,binPV]
   ·intro qs a3 w3 hq h3
    refine ⟨nofun,fun _=>.inr (.inl ⟨by rw [show Zgi (nth flN 7)=0 by kernel_rfl];rfl,?_⟩)⟩
    rw [<- List.append_nil (flN.drop 8)]
    refine Zan names_ok mixed_ok (Zax tabN) pz h3 ?_ (fun qs a6 w6 hq h6=>fin qs a6 w6 (by simp [evs,SX.ev] at hq;exact hq.symm) h6)
    simp [-Zac,Zab,Zaa,Base.ev,SX.ev,evs,Value.oneCell',binPV]
theorem walk (w:World) (v4:Value) (len4:Nat) (Z4:Nat->Nat->Int) (h:IsGrid 3 w v4 len4 Z4) :
  Calls Try.prog 4 #[v4] w fun e w'=>e=.returned (.bool true)/\Ex w w':=by
 obtain ⟨l,hb,hr⟩:=gridK pos3 h
 refine Zgv (told 0) rfl (us:=[v4]) (ps:=[pRow E3 l]) (Zbv fL ⟨l,hb,reads_len hr,rfl,rfl⟩) rfl rfl (fun i p u hp hu=>?_)
 match i,hp,hu with
 | 0,hp,hu=>simp at hp hu;subst hp;subst hu;exact hr
 | i+1,hp,hu=>simp at hp
end Go.Proofs.Ytgdegpifjljnoaa.sessOnce
