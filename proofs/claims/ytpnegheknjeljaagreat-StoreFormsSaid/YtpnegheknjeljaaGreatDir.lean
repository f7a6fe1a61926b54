/- Names of files: package dir, and the document's Zcn to it. -/
import Derived.Test.YtpnegheknjeljaaGreatSymD
import Derived.Test.YtpnegheknjeljaaGreatRal
namespace Go.Proofs.YtpnegheknjeljaaGreat.dirs
open Go Go.RowKit eng SX Fact fil fileFronts
set_option linter.unusedVariables false
set_option linter.unusedSimpArgs false
set_option maxRecDepth 1000000

abbrev FileM:=ByteArray × Int × ByteArray
def encF:Enc FileM:={ sz:=3,enc:=fun p=>[.string p.1,.int .i64 p.2.1,.string p.2.2],len:=fun _=>rfl,one:=fun _ u hu=>by simp at hu;rcases hu with rfl | rfl | rfl <;> rfl,pos:=by decide }
noncomputable def flF:=flat (Zat Tryz.prog 186)
noncomputable def lpF:=flat (Zaq (nth flF 2))
def shF:Shape:=⟨[(0,.leaf),(1,.leaf)],[],[some false,none],22,186⟩
def shFl:Shape:=⟨[(1,.leaf),(7,.leaf),(8,.leaf),(9,.leaf)],[],[none,some false,none,none],22,186⟩
def shFR:Shape:=⟨[(4,.leaf)],[],[none],22,186⟩
def shFP:Shape:=⟨[],[],[],22,186⟩
noncomputable def flB:=flat (Zat Tryz.prog 185)
noncomputable def lpB:=flat (Zaq (nth flB 3))
def shB:Shape:=⟨[(0,.leaf)],[],[none],28,185⟩
def shBl:Shape:=⟨[(14,.own 0 2 1),(15,.leaf),(16,.leaf)],[brow 2],[none,none],28,185⟩
def shBP:Shape:=⟨[],[],[],28,185⟩
noncomputable def flM:=flat (Zat Tryz.prog 42)
noncomputable def lpM:=flat (Zaq (nth flM 2))
def shM:Shape:=⟨[(0,.leaf)],[],[none],28,42⟩
def shMl:Shape:=⟨[(0,.leaf),(3,.leaf)],[],[none,none],28,42⟩
def shMR:Shape:=⟨[(2,.leaf)],[],[none],28,42⟩
def EName (k:Nat):FnE:={ k:=k,ins:=[none],leaks:=[false],outs:=[none],kinds:=[.truth] }
def EFind (k:Nat):FnE:={ k:=k,ins:=[none,none],leaks:=[false,false],outs:=[none,none],kinds:=[.num,.truth] }
def ERoom (k:Nat):FnE:={ k:=k,ins:=[none],leaks:=[false],outs:=[none,none],kinds:=[.num,.truth] }
def tabM (f:FuncId):Option FnE:=cond (Nat.beq f 42) (some (EName 1)) none
noncomputable def flG:=flat (Zat Tryz.prog 44)
noncomputable def lpG:=flat (Zaq (nth flG 2))
def shG:Shape:=⟨[(0,.leaf),(1,.leaf)],[],[some false,none],26,44⟩
def shGl:Shape:=⟨[(0,.leaf),(1,.leaf),(6,.leaf)],[],[some false,none,none],26,44⟩
def shGR:Shape:=⟨[(4,.leaf),(5,.leaf)],[],[none,none],26,44⟩
noncomputable def flR:=flat (Zat Tryz.prog 45)
noncomputable def lpR:=flat (Zaq (nth flR 2))
def shR:Shape:=⟨[(0,.leaf)],[],[some false],19,45⟩
def shRl:Shape:=⟨[(0,.leaf),(4,.leaf)],[],[some false,none],19,45⟩
def shRR:Shape:=⟨[(2,.leaf),(3,.leaf)],[],[none,none],19,45⟩
def pvF:Value:=(.iface 9 (.string { data:={ toList:=[UInt8.ofNat 100,UInt8.ofNat 105,UInt8.ofNat 114,UInt8.ofNat 58,UInt8.ofNat 32,UInt8.ofNat 110,UInt8.ofNat 111,UInt8.ofNat 110,UInt8.ofNat 101,UInt8.ofNat 32,UInt8.ofNat 105,UInt8.ofNat 115,UInt8.ofNat 32,UInt8.ofNat 110,UInt8.ofNat 97,UInt8.ofNat 109,UInt8.ofNat 101,UInt8.ofNat 100,UInt8.ofNat 32,UInt8.ofNat 115,UInt8.ofNat 111] } }))
def pvB1:Value:=(.iface 9 (.string { data:={ toList:=[UInt8.ofNat 100,UInt8.ofNat 105,UInt8.ofNat 114,UInt8.ofNat 58,UInt8.ofNat 32,UInt8.ofNat 97,UInt8.ofNat 32,UInt8.ofNat 110,UInt8.ofNat 97,UInt8.ofNat 109,UInt8.ofNat 101,UInt8.ofNat 32,UInt8.ofNat 111,UInt8.ofNat 102,UInt8.ofNat 32,UInt8.ofNat 115,UInt8.ofNat 111,UInt8.ofNat 32,UInt8.ofNat 109,UInt8.ofNat 97,UInt8.ofNat 110,UInt8.ofNat 121,UInt8.ofNat 32,UInt8.ofNat 98,UInt8.ofNat 121,UInt8.ofNat 116,UInt8.ofNat 101,UInt8.ofNat 115,UInt8.ofNat 32,UInt8.ofNat 109,UInt8.ofNat 97,UInt8.ofNat 121,UInt8.ofNat 32,UInt8.ofNat 110,UInt8.ofNat 111,UInt8.ofNat 116,UInt8.ofNat 32,UInt8.ofNat 98,UInt8.ofNat 101] } }))
def pvB2:Value:=(.iface 9 (.string { data:={ toList:=[UInt8.ofNat 100,UInt8.ofNat 105,UInt8.ofNat 114,UInt8.ofNat 58,UInt8.ofNat 32,UInt8.ofNat 97,UInt8.ofNat 32,UInt8.ofNat 98,UInt8.ofNat 121,UInt8.ofNat 116,UInt8.ofNat 101,UInt8.ofNat 32,UInt8.ofNat 116,UInt8.ofNat 104,UInt8.ofNat 97,UInt8.ofNat 116,UInt8.ofNat 32,UInt8.ofNat 110,UInt8.ofNat 111,UInt8.ofNat 32,UInt8.ofNat 110,UInt8.ofNat 97,UInt8.ofNat 109,UInt8.ofNat 101,UInt8.ofNat 32,UInt8.ofNat 104,UInt8.ofNat 97,UInt8.ofNat 115] } }))
@[simp] def Zbs:SX:=.bin .add (.var 1) (.con (.int .i64 1))
@[simp] def Ze7:SX:=.bin .lss (.cell (.var 2) (.var 1) 1 0) (.con (.int .u8 33))
@[simp] def Ze6:SX:=.bin .lss (sidx (.var 0) (.var 1)) (.con (.int .u8 33))
@[simp] def Zjl:SX:=.bin .eql (.cell (.var 0) (.var 1) 3 0) (.con (.string { data:={ toList:=[] } }))
@[simp] def Ze5:SX:=.bin .lss (.slen (.var 0)) (.con (.int .i64 1))
@[simp] def Ze4:SX:=.bin .geq (.slen (.var 0)) (.con (.int .i64 1))
@[simp] def Zdk:SX:=.bin .lss (.var 1) (.slen (.var 0))
@[simp] def Zdj:SX:=.bin .lss (.var 2) (.len (.var 0))
@[simp] def Zjk:SX:=.bin .gtr (.cell (.var 2) (.var 1) 1 0) (.con (.int .u8 126))
@[simp] def Zed:SX:=.bin .add (.var 3) (.con (.int .i64 1))
@[simp] def Zec:SX:=.bin .add (.var 2) (.con (.int .i64 1))
@[simp] def Zhx:SX:=.bin .gtr (sidx (.var 0) (.var 1)) (.con (.int .u8 126))
@[simp] def Za1:Fact:=.ok (.slen (.var 0))
@[simp] def Zeb:SX:=.bin .lss (.var 1) (.len (.var 0))
@[simp] def Zcs:SX:=.bin .lss (.var 1) (.var 0)
@[simp] def Zhw:SX:=.bin .eql (.cell (.var 1) (.var 3) 3 0) (.var 0)
@[simp] def Zhv:SX:=.bin .eql (.cell (.var 0) (.var 2) 3 0) (.var 1)
@[simp] def Zhu:SX:=.bin .gtr (.slen (.var 0)) (.con (.int .i64 8))
@[simp] def Zht:SX:=.bin .leq (.slen (.var 0)) (.con (.int .i64 8))
@[simp] def Za0:SX:=.con (.int .i64 0)
@[simp] def Zea:SX:=.bin .lss (.var 3) (.var 2)
@[simp] def Zbg:SX:=.con (.bool false)
@[simp] def Zfo:Fact:=.ok (sidx (.var 0) (.var 1))
@[simp] def Zb6:Fact:=.ok (.len (.var 0))
theorem preF:segTo Tryz.prog fil.noOrc 10000 (flF.take 2) shF [] shFl []=some (.normal,[Zb6,.ok (.var 1),Zb6,.ok Za0],[.var 1,.var 0,.len (.var 0),Za0]):=by kernel_rfl
theorem exF:segTo Tryz.prog fil.noOrc 10000 lpF shFl [0] shFP []=some (.exit 0,[.ok Zea,.is Zea (.bool false)],[]):=by kernel_rfl
theorem onF:segTo Tryz.prog fil.noOrc 10000 lpF shFl [1,0] shFl []=some (.normal,[.ok Zea,.is Zea (.bool true),.idx (.var 1) (.var 3) 3 3,.idx (.var 1) (.var 3) 3 3,.ok (.cell (.var 1) (.var 3) 3 0),.ok (.cell (.var 1) (.var 3) 3 1),.ok (.cell (.var 1) (.var 3) 3 2),.ok Zhw,.is Zhw (.bool false),.ok Zed,.ok (.var 0),.ok (.var 2),.ok Zed],[.var 0,.var 1,.var 2,Zed]):=by kernel_rfl
theorem isF:segTo Tryz.prog fil.noOrc 10000 lpF shFl [1,1] shFR []=some (.ret,[.ok Zea,.is Zea (.bool true),.idx (.var 1) (.var 3) 3 3,.idx (.var 1) (.var 3) 3 3,.ok (.cell (.var 1) (.var 3) 3 0),.ok (.cell (.var 1) (.var 3) 3 1),.ok (.cell (.var 1) (.var 3) 3 2),.ok Zhw,.is Zhw (.bool true),.ok Zed,.ok Zed],[Zed]):=by kernel_rfl
theorem postF:segTo Tryz.prog fil.noOrc 10000 (flF.drop 3) shFP [] shFP []=some (.panic pvF,[],[]):=by kernel_rfl
theorem pre1:segTo Tryz.prog fil.noOrc 10000 (flB.take 3) shB [1] shBP []=some (.panic pvB1,[Za1,.ok Ze5,.is Ze5 (.bool true)],[]):=by kernel_rfl
theorem pre2:segTo Tryz.prog fil.noOrc 10000 (flB.take 3) shB [0,1] shBP []=some (.panic pvB1,[Za1,.ok Ze5,.is Ze5 (.bool false),Za1,.ok Zhu,.is Zhu (.bool true)],[]):=by kernel_rfl
theorem preB:segTo Tryz.prog fil.noOrc 10000 (flB.take 3) shB [0,0] shBl [(0,0)]=some (.normal,[Za1,.ok Ze5,.is Ze5 (.bool false),Za1,.ok Zhu,.is Zhu (.bool false),upto (.slen (.var 0)) 4294967296,.ok (.len (rop ROp.ofStr [.var 0])),.ok Za0,same (.len (rop ROp.ofStr [.var 0])) (.len (rop ROp.ofStr [.var 0]))],[.len (rop ROp.ofStr [.var 0]),Za0,rop ROp.ofStr [.var 0]]):=by kernel_rfl
theorem exB:segTo Tryz.prog fil.noOrc 10000 lpB shBl [0] shBP []=some (.exit 0,[.ok Zcs,.is Zcs (.bool false)],[]):=by kernel_rfl
theorem onB:segTo Tryz.prog fil.noOrc 10000 lpB shBl [1,0,0] shBl [(0,0)]=some (.normal,[.ok Zcs,.is Zcs (.bool true),rng (.var 1) (.len (.var 2)),.idx (.var 2) (.var 1) 1 1,.ok Ze7,.is Ze7 (.bool false),.ok Zjk,.is Zjk (.bool false),.ok Zbs,.ok (.var 0),.ok Zbs,same (.len (.var 2)) (.len (.var 2))],[.var 0,Zbs,.var 2]):=by kernel_rfl
theorem noB1:segTo Tryz.prog fil.noOrc 10000 lpB shBl [1,1] shBP []=some (.panic pvB2,[.ok Zcs,.is Zcs (.bool true),rng (.var 1) (.len (.var 2)),.idx (.var 2) (.var 1) 1 1,.ok Ze7,.is Ze7 (.bool true)],[]):=by kernel_rfl
theorem noB2:segTo Tryz.prog fil.noOrc 10000 lpB shBl [1,0,1] shBP []=some (.panic pvB2,[.ok Zcs,.is Zcs (.bool true),rng (.var 1) (.len (.var 2)),.idx (.var 2) (.var 1) 1 1,.ok Ze7,.is Ze7 (.bool false),.ok Zjk,.is Zjk (.bool true)],[]):=by kernel_rfl
theorem preM:segTo Tryz.prog fil.noOrc 10000 (flM.take 2) shM [] shMl []=some (.normal,[.ok (.var 0),.ok Za0],[.var 0,Za0]):=by kernel_rfl
theorem exM:segTo Tryz.prog fil.noOrc 10000 lpM shMl [0] shMl []=some (.exit 0,[Za1,.ok Zdk,.is Zdk (.bool false),.ok (.var 0),.ok (.var 1)],[.var 0,.var 1]):=by kernel_rfl
theorem onM:segTo Tryz.prog fil.noOrc 10000 lpM shMl [1,0,0] shMl []=some (.normal,[Za1,.ok Zdk,.is Zdk (.bool true),Zfo,.ok Ze6,.is Ze6 (.bool false),Zfo,.ok Zhx,.is Zhx (.bool false),.ok Zbs,.ok (.var 0),.ok Zbs],[.var 0,Zbs]):=by kernel_rfl
theorem noM1:segTo Tryz.prog fil.noOrc 10000 lpM shMl [1,1] shMR []=some (.ret,[Za1,.ok Zdk,.is Zdk (.bool true),Zfo,.ok Ze6,.is Ze6 (.bool true),.ok Zbg],[Zbg]):=by kernel_rfl
theorem noM2:segTo Tryz.prog fil.noOrc 10000 lpM shMl [1,0,1] shMR []=some (.ret,[Za1,.ok Zdk,.is Zdk (.bool true),Zfo,.ok Ze6,.is Ze6 (.bool false),Zfo,.ok Zhx,.is Zhx (.bool true),.ok Zbg],[Zbg]):=by kernel_rfl
theorem postM0:segTo Tryz.prog fil.noOrc 10000 (flM.drop 3) shMl [0] shMR []=some (.ret,[Za1,.ok Ze4,.is Ze4 (.bool false),.ok Zbg],[Zbg]):=by kernel_rfl
theorem postM10:segTo Tryz.prog fil.noOrc 10000 (flM.drop 3) shMl [1,0] shMR []=some (.ret,[Za1,.ok Ze4,.is Ze4 (.bool true),Za1,.ok Zht,.is Zht (.bool false),.ok Zbg],[Zbg]):=by kernel_rfl
theorem postM11:segTo Tryz.prog fil.noOrc 10000 (flM.drop 3) shMl [1,1] shMR []=some (.ret,[Za1,.ok Ze4,.is Ze4 (.bool true),Za1,.ok Zht,.is Zht (.bool true),.ok (.con (.bool true))],[.con (.bool true)]):=by kernel_rfl
theorem preG:segTo Tryz.prog (orcFn tabM) 10000 (flG.take 2) shG [] shGl []=some (.normal,[.ok (.var 1),.ok Za0],[.var 0,.var 1,Za0]):=by kernel_rfl
theorem exG:segTo Tryz.prog (orcFn tabM) 10000 lpG shGl [0] shGl []=some (.exit 0,[Zb6,.ok Zdj,.is Zdj (.bool false),.ok (.var 1),.ok (.var 2)],[.var 0,.var 1,.var 2]):=by kernel_rfl
theorem exG2:segTo Tryz.prog (orcFn tabM) 10000 lpG shGl [1,0] shGl []=some (.exit 0,[Zb6,.ok Zdj,.is Zdj (.bool true),.fn 42 (EName 1) [.var 1],.is (.fn 1 [.var 1] 0) (.bool false),.ok (.var 1),.ok (.var 2)],[.var 0,.var 1,.var 2]):=by kernel_rfl
theorem onG:segTo Tryz.prog (orcFn tabM) 10000 lpG shGl [1,1,0] shGl []=some (.normal,[Zb6,.ok Zdj,.is Zdj (.bool true),.fn 42 (EName 1) [.var 1],.is (.fn 1 [.var 1] 0) (.bool true),.idx (.var 0) (.var 2) 3 3,.idx (.var 0) (.var 2) 3 1,.ok (.cell (.var 0) (.var 2) 3 0),.ok Zhv,.is Zhv (.bool false),.ok Zec,.ok (.var 1),.ok Zec],[.var 0,.var 1,Zec]):=by kernel_rfl
theorem isG:segTo Tryz.prog (orcFn tabM) 10000 lpG shGl [1,1,1] shGR []=some (.ret,[Zb6,.ok Zdj,.is Zdj (.bool true),.fn 42 (EName 1) [.var 1],.is (.fn 1 [.var 1] 0) (.bool true),.idx (.var 0) (.var 2) 3 3,.idx (.var 0) (.var 2) 3 1,.ok (.cell (.var 0) (.var 2) 3 0),.ok Zhv,.is Zhv (.bool true),.ok Zec,.ok Zec,.ok (.con (.bool true))],[Zec,.con (.bool true)]):=by kernel_rfl
theorem postG:segTo Tryz.prog (orcFn tabM) 10000 (flG.drop 3) shGl [] shGR []=some (.ret,[.ok Za0,.ok Zbg],[Za0,Zbg]):=by kernel_rfl
theorem preR:segTo Tryz.prog fil.noOrc 10000 (flR.take 2) shR [] shRl []=some (.normal,[.ok Za0],[.var 0,Za0]):=by kernel_rfl
theorem exR:segTo Tryz.prog fil.noOrc 10000 lpR shRl [0] shRl []=some (.exit 0,[Zb6,.ok Zeb,.is Zeb (.bool false),.ok (.var 1)],[.var 0,.var 1]):=by kernel_rfl
theorem onR:segTo Tryz.prog fil.noOrc 10000 lpR shRl [1,0] shRl []=some (.normal,[Zb6,.ok Zeb,.is Zeb (.bool true),.idx (.var 0) (.var 1) 3 3,.idx (.var 0) (.var 1) 3 1,.ok (.cell (.var 0) (.var 1) 3 0),.ok Zjl,.is Zjl (.bool false),.ok Zbs,.ok Zbs],[.var 0,Zbs]):=by kernel_rfl
theorem isR:segTo Tryz.prog fil.noOrc 10000 lpR shRl [1,1] shRR []=some (.ret,[Zb6,.ok Zeb,.is Zeb (.bool true),.idx (.var 0) (.var 1) 3 3,.idx (.var 0) (.var 1) 3 1,.ok (.cell (.var 0) (.var 1) 3 0),.ok Zjl,.is Zjl (.bool true),.ok Zbs,.ok Zbs,.ok (.con (.bool true))],[Zbs,.con (.bool true)]):=by kernel_rfl
theorem postR:segTo Tryz.prog fil.noOrc 10000 (flR.drop 3) shRl [] shRR []=some (.ret,[.ok Za0,.ok Zbg],[Za0,Zbg]):=by kernel_rfl

def isN (s:ByteArray) (f:FileM):Bool:=f.1.toList == s.toList
def okC (c:UInt8):Bool:=decide (33<=c.toNat) && decide (c.toNat<=126)
def okN (s:ByteArray):Bool:=decide (1<=s.size) && decide (s.size<=8) && s.data.toList.all okC
def Zpk (l:List FileM):Prop:=l.length<=1000000
theorem Zln:∀ xs ys:List FileM,encF.all xs=encF.all ys->xs=ys
 | [],[],_=>rfl
 | [],_ :: _,h=>by simp [Enc.all,encF] at h
 | _ :: _,[],h=>by simp [Enc.all,encF] at h
 | x :: xs,y :: ys,h=>by
  rw [Enc.all_cons,Enc.all_cons] at h
  obtain ⟨h1,h2⟩:=List.append_inj h (by rw [encF.len,encF.len])
  simp only [encF,List.cons.injEq,Value.int.injEq,Value.string.injEq,true_and,and_true] at h1
  rw [Prod.ext h1.1 (Prod.ext h1.2.1 h1.2.2),Zln xs ys h2]
theorem cellF (l:List FileM) (i:Nat) (h:i < l.length):Zc1 (pRow encF l) (pI (i:Int)) 3 0=some (pS l[i].1)/\Zc1 (pRow encF l) (pI (i:Int)) 3 1=some (pI l[i].2.1)/\Zc1 (pRow encF l) (pI (i:Int)) 3 2=some (pS l[i].2.2):=by
 have h2:l[i]?=some l[i]:=List.getElem?_eq_getElem h
 refine ⟨?_,?_,?_⟩
 ·rw [Zbe encF l i .i64 3 0 rfl h,Zco encF l i 0 _ h2 (by decide)];rfl
 ·rw [Zbe encF l i .i64 3 1 rfl h,Zco encF l i 1 _ h2 (by decide)];rfl
 ·rw [Zbe encF l i .i64 3 2 rfl h,Zco encF l i 2 _ h2 (by decide)];rfl
theorem Zqj {α:Type} {p:α->Bool} {l:List α} {i:Nat} (h:i < l.length) (hp:p l[i]=true) (hb:∀ j (hj:j < l.length),j < i->p l[j]=false):l.findIdx? p=some i:=by
 rw [List.findIdx?_eq_some_iff_getElem]
 exact ⟨h,hp,fun j hj=>by simp [hb j (by omega) hj]⟩
theorem Zqi {α:Type} {p:α->Bool} {l:List α} (hb:∀ j (hj:j < l.length),p l[j]=false):l.findIdx? p=none:=by
 rw [List.findIdx?_eq_none_iff]
 intro x hx
 obtain ⟨j,hj,rfl⟩:=List.getElem_of_mem hx
 exact hb j hj
def Zkc (l:List FileM) (s:ByteArray):List PV:=match l.findIdx? (isN s) with | some i=>[pI 0,pI (i+1:Nat)] | none=>[pI (0+1:Nat)]
def Zq9 (ps qs:List PV):Prop:=∃ (l:List FileM) (s:ByteArray),Zpk l/\ps=[pRow encF l,pS s]/\qs=Zkc l s
theorem fFirst:∀ ps q1 q2,Zq9 ps q1->Zq9 ps q2->q1=q2:=by
 rintro ps q1 q2 ⟨l,s,_,rfl,rfl⟩ ⟨l',s',_,h,rfl⟩
 simp only [List.cons.injEq,PV.v.injEq,Value.string.injEq,and_true] at h
 obtain ⟨h,rfl⟩:=h
 rw [fil.pRow_inj Zln h]
def Zon (k:Nat):FnE:={ k:=k,ins:=[none,none],leaks:=[false,false],outs:=[none],kinds:=[.num] }
theorem cutF:flF=flF.take 2++.block (Zbj (nth flF 2)) (.loop (Zaq (nth flF 2))) :: flF.drop 3:=by kernel_rfl
set_option maxHeartbeats 1000000 in
theorem toldFirst (k:Nat):ToldX 186 (Zon k) [pvF] (spec Zq9):=by
 refine Zf4 (fun _ _=>none) _ (Zat Tryz.prog 186) Tryz.func186 (by kernel_rfl) shF (by kernel_rfl) ?_ ?_
 ·intro ps qs h
  obtain ⟨l,s,_,rfl,rfl⟩:=Zah h
  exact Zc0 rfl
 ·intro C ps qs hF h a w hsh
  obtain ⟨l,s,hl,rfl,rfl⟩:=Zah h
  have hl':l.length<=1000000:=hl
  show wpL Tryz.prog flF _ a w
  rw [cutF]
  refine Zae names_ok mixed_ok fil.noOrc_ok preF hsh ?_ ?_
  ·simp [Base.ev,SX.ev,evs,Value.oneCell',Zad]
  ·intro qs a1 w1 hq h1
   refine ⟨fun _=>?_,fun h=>absurd rfl h⟩
   simp [evs,SX.ev,Zad] at hq
   subst hq
   refine Zda (fun n a w=>∃ i,i<=l.length/\n=l.length - i/\(∀ j (hj:j < l.length),j < i->isN s l[j]=false)/\Zam C shFl [pS s,pRow encF l,pI (l.length:Int),pI (i:Int)] a w) ?_ (n:=l.length) ⟨0,by omega,by omega,fun j _ hj=>absurd hj (by omega),h1⟩
   rintro n a w ⟨i,hi,rfl,hb,hin⟩
   show wpL Tryz.prog lpF _ a w
   rw [<- List.append_nil lpF]
   by_cases hlt:i < l.length
   ·obtain ⟨c0',c1',c2'⟩:=cellF l i hlt
    have ix:(Fact.idx (var 1) (var 3) 3 3).holds (C.with [pS s,pRow encF l,pI (l.length:Int),pI (i:Int)]):=Znq encF l i 3 3 rfl hlt (by decide)
    have v3:IntKind.i64.wrap ((i:Int)+1)=(i:Int)+1:=wrapI _ (by omega) (by omega)
    cases hp:isN s l[i] with
    | true =>
     have hq0:Zkc l s=[pI 0,pI (i+1:Nat)]:=by simp only [Zkc,Zqj hlt hp hb]
     have hp':(l[i].1.toList == s.toList)=true:=hp
     refine Zae names_ok mixed_ok fil.noOrc_ok isF hin ?_ ?_
     ·simp [-Zac,Base.ev,SX.ev,evs,Value.oneCell',Zad,binPV,c0',c1',c2',ix,v3,hlt,hp']
     ·intro qs a1 w1 hq h1
      refine ⟨nofun,fun _=>.inr (.inr (.inl ⟨rfl,.inl ⟨_,hq0,.inr rfl,shFR,qs,[SX.var 0],h1,by kernel_rfl,?_⟩⟩))⟩
      simp [evs,SX.ev,binPV,v3] at hq ⊢
      subst hq
      simp
    | false =>
     have hp':(l[i].1.toList == s.toList)=false:=hp
     refine Zae names_ok mixed_ok fil.noOrc_ok onF hin ?_ ?_
     ·simp [-Zac,Base.ev,SX.ev,evs,Value.oneCell',Zad,binPV,c0',c1',c2',ix,v3,hlt,hp']
     ·intro qs a1 w1 hq h1
      refine ⟨fun _=>.inl ⟨rfl,l.length - (i+1),by omega,i+1,by omega,rfl,fun j hj hji=>?_,?_⟩,fun h=>absurd rfl h⟩
      ·by_cases hje:j=i
       ·subst hje;exact hp
       ·exact hb j hj (by omega)
      ·simp [evs,SX.ev,binPV,v3] at hq
       subst hq
       exact h1
   ·have hie:i=l.length:=by omega
    subst hie
    have hq0:Zkc l s=[pI (0+1:Nat)]:=by simp only [Zkc,Zqi (fun j hj=>hb j hj hj)]
    refine Zae names_ok mixed_ok fil.noOrc_ok exF hin ?_ ?_
    ·simp [Base.ev,SX.ev,evs,Value.oneCell',binPV]
    ·intro qs a1 w1 hq h1
     refine ⟨nofun,fun _=>.inr (.inl ⟨by rw [show Zbj (nth flF 2)=0 by kernel_rfl];rfl,?_⟩)⟩
     rw [<- List.append_nil (flF.drop 3)]
     refine Zae names_ok mixed_ok fil.noOrc_ok postF h1 (by simp) ?_
     intro qs a2 w2 hq h2
     exact ⟨nofun,fun _=>.inr ⟨0,_,_,_,hq0,rfl,rfl,h2⟩⟩

def mustQ (s:ByteArray):List PV:=if 1<=s.size/\s.size<=8 then (if s.data.toList.all okC then [pI 0] else [pI (1+1:Nat)]) else [pI (0+1:Nat)]
def RMust (ps qs:List PV):Prop:=∃ s:ByteArray,s.size<=9223372036854775807/\ps=[pS s]/\qs=mustQ s
theorem fMust:∀ ps q1 q2,RMust ps q1->RMust ps q2->q1=q2:=by
 rintro ps q1 q2 ⟨s,_,rfl,rfl⟩ ⟨s',_,h,rfl⟩
 simp only [List.cons.injEq,PV.v.injEq,Value.string.injEq,and_true] at h
 subst h;rfl
def EMust (k:Nat):FnE:={ k:=k,ins:=[none],leaks:=[false],outs:=[],kinds:=[] }
theorem cutB:flB=flB.take 3++.block (Zbj (nth flB 3)) (.loop (Zaq (nth flB 3))) :: flB.drop 4:=by kernel_rfl
theorem dropB:flB.drop 4=[]:=by kernel_rfl
theorem cellBy (l:List UInt8) (i:Nat) (h:i < l.length):Zc1 (pBy l) (pI (i:Int)) 1 0=some (pU (l[i].toNat:Int)):=by
 have h0:(i:Int) < (l.length:Int):=by omega
 simp [Zc1,pBy,h0,h]
theorem idxBy (l:List UInt8) (i:Nat) (h:i < l.length):∃ n cs k z,(some (pBy l):Option PV)=some (.row n cs)/\(some (pI (i:Int)):Option PV)=some (.v (.int k z))/\0<=z/\z < (n:Int)/\z.toNat * 1+1<=cs.length:=by
 refine ⟨_,_,_,_,rfl,rfl,by omega,by omega,?_⟩
 simp
 omega
set_option maxHeartbeats 1000000 in
theorem toldMust (k:Nat):ToldX 185 (EMust k) [pvB1,pvB2] (spec RMust):=by
 refine Zf4 (fun _ _=>none) _ (Zat Tryz.prog 185) Tryz.func185 (by kernel_rfl) shB (by kernel_rfl) ?_ ?_
 ·intro ps qs h
  obtain ⟨s,_,rfl,rfl⟩:=Zah h
  exact Zc0 rfl
 ·intro C ps qs hF h a w hsh
  obtain ⟨s,hs,rfl,rfl⟩:=Zah h
  show wpL Tryz.prog flB _ a w
  rw [cutB]
  by_cases h1:s.size < 1
  ·have hq0:mustQ s=[pI (0+1:Nat)]:=by rw [mustQ,if_neg (by omega)]
   refine Zae names_ok mixed_ok fil.noOrc_ok pre1 hsh ?_ ?_
   ·simp [Base.ev,SX.ev,evs,Value.oneCell',Zbc,binPV]
    all_goals omega
   ·intro qs a1 w1 hq hx
    exact ⟨nofun,fun _=>.inr ⟨0,_,_,_,hq0,rfl,rfl,hx⟩⟩
  by_cases h2:8 < s.size
  ·have hq0:mustQ s=[pI (0+1:Nat)]:=by rw [mustQ,if_neg (by omega)]
   refine Zae names_ok mixed_ok fil.noOrc_ok pre2 hsh ?_ ?_
   ·simp [Base.ev,SX.ev,evs,Value.oneCell',Zbc,binPV]
    all_goals omega
   ·intro qs a1 w1 hq hx
    exact ⟨nofun,fun _=>.inr ⟨0,_,_,_,hq0,rfl,rfl,hx⟩⟩
  have hll:s.data.toList.length=s.size:=by simp
  have hmq:mustQ s=if s.data.toList.all okC then [pI 0] else [pI (1+1:Nat)]:=by rw [mustQ,if_pos (by omega)]
  refine Zae names_ok mixed_ok fil.noOrc_ok preB hsh ?_ ?_
  ·simp [Base.ev,SX.ev,evs,Value.oneCell',Zbc,binPV,Zov,r_len]
   all_goals omega
  ·intro qs a1 w1 hq hx
   refine ⟨fun _=>?_,fun h=>absurd rfl h⟩
   simp [evs,SX.ev,Zov,r_len] at hq
   subst hq
   generalize s.data.toList=l at *
   rw [<- hll] at hx
   refine Zda (fun n a w=>∃ i,i<=l.length/\n=l.length - i/\(∀ j (hj:j < l.length),j < i->okC l[j]=true)/\Zam C shBl [pI (l.length:Int),pI (i:Int),pBy l] a w) ?_ (n:=l.length) ⟨0,by omega,by omega,fun j _ hj=>absurd hj (by omega),hx⟩
   rintro n a w ⟨i,hi,rfl,hb,hin⟩
   show wpL Tryz.prog lpB _ a w
   rw [<- List.append_nil lpB]
   by_cases hlt:i < l.length
   ·have c0':=cellBy l i hlt
    have ix:(Fact.idx (var 2) (var 1) 1 1).holds (C.with [pI (l.length:Int),pI (i:Int),pBy l]):=idxBy l i hlt
    have v3:IntKind.i64.wrap ((i:Int)+1)=(i:Int)+1:=wrapI _ (by omega) (by omega)
    have bad:okC l[i]=false->mustQ s=[pI (1+1:Nat)]:=fun hc=>by
     rw [hmq,if_neg]
     intro h
     rw [List.all_eq_true.1 h _ (List.getElem_mem hlt)] at hc
     cases hc
    by_cases d1:l[i].toNat < 33
    ·have d1':(l[i].toNat:Int) < 33:=by omega
     refine Zae names_ok mixed_ok fil.noOrc_ok noB1 hin ?_ ?_
     ·simp [-Zac,Base.ev,SX.ev,evs,Value.oneCell',r_len,binPV,c0',ix,v3,hlt,d1']
     ·intro qs a1 w1 hq h1
      exact ⟨nofun,fun _=>.inr (.inr (.inr ⟨_,rfl,.inr ⟨1,_,_,_,bad (by simp only [okC,Bool.and_eq_false_iff,decide_eq_false_iff_not];omega),rfl,rfl,h1⟩⟩))⟩
    by_cases d2:126 < l[i].toNat
    ·have d1':¬ (l[i].toNat:Int) < 33:=by omega
     have d2':(126:Int) < (l[i].toNat:Int):=by omega
     refine Zae names_ok mixed_ok fil.noOrc_ok noB2 hin ?_ ?_
     ·simp [-Zac,Base.ev,SX.ev,evs,Value.oneCell',r_len,binPV,c0',ix,v3,hlt,d1',d2']
     ·intro qs a1 w1 hq h1
      exact ⟨nofun,fun _=>.inr (.inr (.inr ⟨_,rfl,.inr ⟨1,_,_,_,bad (by simp only [okC,Bool.and_eq_false_iff,decide_eq_false_iff_not];omega),rfl,rfl,h1⟩⟩))⟩
    ·have d1':¬ (l[i].toNat:Int) < 33:=by omega
     have d2':¬ (126:Int) < (l[i].toNat:Int):=by omega
     refine Zae names_ok mixed_ok fil.noOrc_ok onB hin ?_ ?_
     ·simp [-Zac,Base.ev,SX.ev,evs,Value.oneCell',r_len,binPV,c0',ix,v3,hlt,d1',d2']
     ·intro qs a1 w1 hq h1
      refine ⟨fun _=>.inl ⟨rfl,l.length - (i+1),by omega,i+1,by omega,rfl,fun j hj hji=>?_,?_⟩,fun h=>absurd rfl h⟩
      ·by_cases hje:j=i
       ·subst hje;simp only [okC,Bool.and_eq_true,decide_eq_true_eq];omega
       ·exact hb j hj (by omega)
      ·simp [evs,SX.ev,binPV,v3] at hq
       subst hq
       exact h1
   ·have hie:i=l.length:=by omega
    subst hie
    have hq0:mustQ s=[pI 0]:=by
     rw [hmq,if_pos]
     rw [List.all_eq_true]
     intro c hc
     obtain ⟨j,hj,rfl⟩:=List.getElem_of_mem hc
     exact hb j hj hj
    refine Zae names_ok mixed_ok fil.noOrc_ok exB hin ?_ ?_
    ·simp [Base.ev,SX.ev,evs,Value.oneCell',binPV]
    ·intro qs a1 w1 hq h1
     refine ⟨nofun,fun _=>.inr (.inl ⟨by rw [show Zbj (nth flB 3)=0 by kernel_rfl];rfl,?_⟩)⟩
     rw [dropB]
     exact .inl ⟨_,hq0,.inl rfl,shBP,_,[],h1,by kernel_rfl,rfl⟩

def RName (ps qs:List PV):Prop:=∃ s:ByteArray,s.size<=9223372036854775807/\ps=[pS s]/\qs=[pB (okN s)]
theorem fName:∀ ps q1 q2,RName ps q1->RName ps q2->q1=q2:=by
 rintro ps q1 q2 ⟨s,_,rfl,rfl⟩ ⟨s',_,h,rfl⟩
 simp only [List.cons.injEq,PV.v.injEq,Value.string.injEq,and_true] at h
 subst h;rfl
theorem cutM:flM=flM.take 2++.block (Zbj (nth flM 2)) (.loop (Zaq (nth flM 2))) :: flM.drop 3:=by kernel_rfl
theorem sidx_at (s:ByteArray) (k:Nat) (h:k < s.data.toList.length):Zoa (pS s) (pI (k:Int))=some (pU (s.data.toList[k].toNat:Int)):=by
 have h0:(0:Int)<=(k:Int):=by omega
 have hk:k < s.size:=by simpa using h
 simp only [Zoa,h0,if_true,Int.toNat_natCast]
 rw [getElem?_pos s k hk]
 rfl
set_option maxHeartbeats 1000000 in
theorem toldName (k:Nat):ToldF 42 (EName k) (spec RName):=by
 refine Zm9 (fun _ _=>none) _ (Zat Tryz.prog 42) Tryz.func42 (by kernel_rfl) shM (by kernel_rfl) ?_ ?_
 ·intro ps qs h
  obtain ⟨s,_,rfl,rfl⟩:=Zah h
  exact Zc0 rfl
 ·intro C ps qs hF h a w hsh
  obtain ⟨s,hs,rfl,rfl⟩:=Zah h
  show wpL Tryz.prog flM _ a w
  rw [cutM]
  have hll:s.data.toList.length=s.size:=by simp
  refine Zae names_ok mixed_ok fil.noOrc_ok preM hsh ?_ ?_
  ·simp [Base.ev,SX.ev,evs,Value.oneCell',Zbc]
  ·intro qs a1 w1 hq hx
   refine ⟨fun _=>?_,fun h=>absurd rfl h⟩
   simp [evs,SX.ev] at hq
   subst hq
   refine Zds (fun n a w=>∃ i,i<=s.data.toList.length/\n=s.data.toList.length - i/\(∀ j (hj:j < s.data.toList.length),j < i->okC s.data.toList[j]=true)/\Zam C shMl [pS s,pI (i:Int)] a w) ?_ (n:=s.data.toList.length) ⟨0,by omega,by omega,fun j _ hj=>absurd hj (by omega),hx⟩
   rintro n a w ⟨i,hi,rfl,hb,hin⟩
   show wpL Tryz.prog lpM _ a w
   rw [<- List.append_nil lpM]
   by_cases hlt:i < s.data.toList.length
   ·have c0':=sidx_at s i hlt
    have hlt':i < s.size:=by omega
    have v3:IntKind.i64.wrap ((i:Int)+1)=(i:Int)+1:=wrapI _ (by omega) (by omega)
    have bad:okC s.data.toList[i]=false->okN s=false:=fun hc=>by
     simp only [okN,Bool.and_eq_false_iff]
     right
     rw [List.all_eq_false]
     exact ⟨_,List.getElem_mem hlt,by simpa using hc⟩
    have okq:okC s.data.toList[i]=(decide (33<=s.data.toList[i].toNat) && decide (s.data.toList[i].toNat<=126)):=rfl
    have hbi:okC s.data.toList[i]=true->∀ j (hj:j < s.data.toList.length),j < i+1->okC s.data.toList[j]=true:=fun hc j hj hji=>by
     by_cases hje:j=i
     ·subst hje;exact hc
     ·exact hb j hj (by omega)
    generalize s.data.toList[i].toNat=c at c0' okq
    rw [okq] at bad hbi
    by_cases d1:c < 33
    ·have d1':(c:Int) < 33:=by omega
     refine Zae names_ok mixed_ok fil.noOrc_ok noM1 hin ?_ ?_
     ·simp [-Zac,Base.ev,SX.ev,evs,Value.oneCell',Zbc,binPV,c0',v3,hlt',d1']
     ·intro qs a1 w1 hq h1
      refine ⟨nofun,fun _=>.inr (.inr ⟨rfl,.inr rfl,shMR,_,[SX.var 0],h1,by kernel_rfl,?_⟩)⟩
      simp [evs,SX.ev] at hq ⊢
      subst hq
      simp [bad (by simp;omega)]
    by_cases d2:126 < c
    ·have d1':¬ (c:Int) < 33:=by omega
     have d2':(126:Int) < (c:Int):=by omega
     refine Zae names_ok mixed_ok fil.noOrc_ok noM2 hin ?_ ?_
     ·simp [-Zac,Base.ev,SX.ev,evs,Value.oneCell',Zbc,binPV,c0',v3,hlt',d1',d2']
     ·intro qs a1 w1 hq h1
      refine ⟨nofun,fun _=>.inr (.inr ⟨rfl,.inr rfl,shMR,_,[SX.var 0],h1,by kernel_rfl,?_⟩)⟩
      simp [evs,SX.ev] at hq ⊢
      subst hq
      simp [bad (by simp;omega)]
    ·have d1':¬ (c:Int) < 33:=by omega
     have d2':¬ (126:Int) < (c:Int):=by omega
     refine Zae names_ok mixed_ok fil.noOrc_ok onM hin ?_ ?_
     ·simp [-Zac,Base.ev,SX.ev,evs,Value.oneCell',Zbc,binPV,c0',v3,hlt',d1',d2']
     ·intro qs a1 w1 hq h1
      refine ⟨fun _=>.inl ⟨rfl,s.data.toList.length - (i+1),by omega,i+1,by omega,rfl,hbi (by simp;omega),?_⟩,fun h=>absurd rfl h⟩
      simp [evs,SX.ev,binPV,v3] at hq
      subst hq
      exact h1
   ·have hie:i=s.data.toList.length:=by omega
    have hall:s.data.toList.all okC=true:=by
     rw [List.all_eq_true]
     intro c hc
     obtain ⟨j,hj,rfl⟩:=List.getElem_of_mem hc
     exact hb j hj (by omega)
    refine Zae names_ok mixed_ok fil.noOrc_ok exM hin ?_ ?_
    ·simp [Base.ev,SX.ev,evs,Value.oneCell',Zbc,binPV]
     all_goals omega
    ·intro qs a1 w1 hq h1
     refine ⟨nofun,fun _=>.inr (.inl ⟨by rw [show Zbj (nth flM 2)=0 by kernel_rfl];rfl,?_⟩)⟩
     simp [evs,SX.ev] at hq
     subst hq
     rw [<- List.append_nil (flM.drop 3)]
     have fin:∀ (b:Bool),okN s=b->∀ qs a1 w1,qs=[pB b]->Zam C shMR qs a1 w1->(AX.ret=.normal->wpL Tryz.prog [] (fun e a' w'=>(e=.normal \/ e=.ret)/\∃ sh' ps' es,Zam C sh' ps' a' w'/\resTo Tryz.prog Tryz.f42 sh' (EName k)=some es/\evs (fun i=>ps'[i]?) (fun _ _=>none) es=some [pB (okN s)]) a1 w1)/\(AX.ret ≠ .normal->(AX.ret.to=.normal \/ AX.ret.to=.ret)/\∃ sh' ps' es,Zam C sh' ps' a1 w1/\resTo Tryz.prog Tryz.f42 sh' (EName k)=some es/\evs (fun i=>ps'[i]?) (fun _ _=>none) es=some [pB (okN s)]):=by
      rintro b hb qs a1 w1 rfl h1
      exact ⟨nofun,fun _=>⟨.inr rfl,shMR,_,[SX.var 0],h1,by kernel_rfl,by rw [hb];rfl⟩⟩
     by_cases e1:1<=s.size
     ·by_cases e2:s.size<=8
      ·refine Zae names_ok mixed_ok fil.noOrc_ok postM11 h1 ?_ (fun qs a1 w1 hq h1=>fin true (by simp [okN,e1,e2,hall]) qs a1 w1 (by simp [evs,SX.ev] at hq;exact hq.symm) h1)
       simp [Base.ev,SX.ev,evs,Value.oneCell',Zbc,binPV]
       all_goals omega
      ·refine Zae names_ok mixed_ok fil.noOrc_ok postM10 h1 ?_ (fun qs a1 w1 hq h1=>fin false (by simp [okN,e2]) qs a1 w1 (by simp [evs,SX.ev] at hq;exact hq.symm) h1)
       simp [Base.ev,SX.ev,evs,Value.oneCell',Zbc,binPV]
       all_goals omega
     ·refine Zae names_ok mixed_ok fil.noOrc_ok postM0 h1 ?_ (fun qs a1 w1 hq h1=>fin false (by simp [okN,e1]) qs a1 w1 (by simp [evs,SX.ev] at hq;exact hq.symm) h1)
      simp [Base.ev,SX.ev,evs,Value.oneCell',Zbc,binPV]
      all_goals omega
end Go.Proofs.YtpnegheknjeljaaGreat.dirs
