/- Texts joined. -/
import Derived.Test.YtgdegpifjljnoaaRbt
import Derived.Test.YtgdegpifjljnoaaMkb
import Derived.Test.YtgdegpifjljnoaaMyt
section
/- Texts joined. -/
section
/- How it is judged what is asked: reckoning, no program in it but the namespace. -/
namespace Go.Proofs.Ytgdegpifjljnoaa.sjm
open Go Go.RowKit eng SX Fact fil msm
open sta (MarkM encM)
open myt (tP)
set_option linter.unusedVariables false
set_option maxRecDepth 1000000
theorem Znj {α:Type} (E:Enc α) (h1:∀ a b:α,E.enc a=E.enc b->a=b):∀ xs ys:List α,E.all xs=E.all ys->xs=ys
 | [],[],_=>rfl
 | [],y :: ys,h=>by
  have:=congrArg List.length h
  rw [Enc.all_cons,List.length_append,E.len] at this
  have hp:=E.pos
  simp [Enc.all] at this
  omega
 | x :: xs,[],h=>by
  have:=congrArg List.length h
  rw [Enc.all_cons,List.length_append,E.len] at this
  have hp:=E.pos
  simp [Enc.all] at this
  omega
 | x :: xs,y :: ys,h=>by
  rw [Enc.all_cons,Enc.all_cons] at h
  obtain ⟨g1,g2⟩:=List.append_inj h (by rw [E.len,E.len])
  rw [h1 _ _ g1,Znj E h1 xs ys g2]
def encT:Enc TellM:={ sz:=9,enc:=fun t=>[.int .i64 t.kind,.int .i64 t.to,.int .i64 t.epoch,.int .i64 t.seq,.int .i64 t.err,.int .i64 t.file,.int .i64 t.mode,.int .i64 t.ver,.string t.body],len:=fun _=>rfl,one:=fun _ u hu=>by simp at hu;rcases hu with rfl | rfl | rfl | rfl | rfl | rfl | rfl | rfl | rfl <;> rfl,pos:=by decide }
def tz:TellM:=⟨0,0,0,0,0,0,0,0,e0⟩
theorem encT_inj {a b:TellM} (h:encT.enc a=encT.enc b):a=b:=by
 obtain ⟨a1,a2,a3,a4,a5,a6,a7,a8,a9⟩:=a
 obtain ⟨b1,b2,b3,b4,b5,b6,b7,b8,b9⟩:=b
 simp only [encT,List.cons.injEq,Value.int.injEq,Value.string.injEq,true_and,and_true] at h
 obtain ⟨rfl,rfl,rfl,rfl,rfl,rfl,rfl,rfl,rfl⟩:=h
 rfl
theorem cellT (xs:List TellM) (i:Nat) (h:i < xs.length) :
  Zbm (pRow encT xs) (pI (i:Int)) 9 0=some (pI xs[i].kind)/\Zbm (pRow encT xs) (pI (i:Int)) 9 1=some (pI xs[i].to)/\Zbm (pRow encT xs) (pI (i:Int)) 9 2=some (pI xs[i].epoch) ∧
  Zbm (pRow encT xs) (pI (i:Int)) 9 3=some (pI xs[i].seq)/\Zbm (pRow encT xs) (pI (i:Int)) 9 4=some (pI xs[i].err)/\Zbm (pRow encT xs) (pI (i:Int)) 9 5=some (pI xs[i].file) ∧
  Zbm (pRow encT xs) (pI (i:Int)) 9 6=some (pI xs[i].mode)/\Zbm (pRow encT xs) (pI (i:Int)) 9 7=some (pI xs[i].ver)/\Zbm (pRow encT xs) (pI (i:Int)) 9 8=some (pS xs[i].body):=by
 refine ⟨?_,?_,?_,?_,?_,?_,?_,?_,?_⟩
 ·rw [Zav encT xs i .i64 9 0 rfl h,Zbf encT xs i 0 _ (List.getElem?_eq_getElem h) (by decide)];rfl
 ·rw [Zav encT xs i .i64 9 1 rfl h,Zbf encT xs i 1 _ (List.getElem?_eq_getElem h) (by decide)];rfl
 ·rw [Zav encT xs i .i64 9 2 rfl h,Zbf encT xs i 2 _ (List.getElem?_eq_getElem h) (by decide)];rfl
 ·rw [Zav encT xs i .i64 9 3 rfl h,Zbf encT xs i 3 _ (List.getElem?_eq_getElem h) (by decide)];rfl
 ·rw [Zav encT xs i .i64 9 4 rfl h,Zbf encT xs i 4 _ (List.getElem?_eq_getElem h) (by decide)];rfl
 ·rw [Zav encT xs i .i64 9 5 rfl h,Zbf encT xs i 5 _ (List.getElem?_eq_getElem h) (by decide)];rfl
 ·rw [Zav encT xs i .i64 9 6 rfl h,Zbf encT xs i 6 _ (List.getElem?_eq_getElem h) (by decide)];rfl
 ·rw [Zav encT xs i .i64 9 7 rfl h,Zbf encT xs i 7 _ (List.getElem?_eq_getElem h) (by decide)];rfl
 ·rw [Zav encT xs i .i64 9 8 rfl h,Zbf encT xs i 8 _ (List.getElem?_eq_getElem h) (by decide)];rfl
theorem Zpn (l:List MarkM) (i:Nat) (h:i < l.length):Zbm (pRow encM l) (pI (i:Int)) 4 0=some (pI l[i].1)/\Zbm (pRow encM l) (pI (i:Int)) 4 1=some (pI l[i].2.1)/\Zbm (pRow encM l) (pI (i:Int)) 4 2=some (pI l[i].2.2.1)/\Zbm (pRow encM l) (pI (i:Int)) 4 3=some (pI l[i].2.2.2):=by
 refine ⟨?_,?_,?_,?_⟩
 ·rw [Zav encM l i .i64 4 0 rfl h,Zbf encM l i 0 _ (List.getElem?_eq_getElem h) (by decide)];rfl
 ·rw [Zav encM l i .i64 4 1 rfl h,Zbf encM l i 1 _ (List.getElem?_eq_getElem h) (by decide)];rfl
 ·rw [Zav encM l i .i64 4 2 rfl h,Zbf encM l i 2 _ (List.getElem?_eq_getElem h) (by decide)];rfl
 ·rw [Zav encM l i .i64 4 3 rfl h,Zbf encM l i 3 _ (List.getElem?_eq_getElem h) (by decide)];rfl
def encI:Enc Int:={ sz:=1,enc:=fun z=>[.int .i64 z],len:=fun _=>rfl,one:=fun _ u hu=>by simp at hu;subst hu;rfl,pos:=by decide }
theorem encI_inj {a b:Int} (h:encI.enc a=encI.enc b):a=b:=by simpa [encI] using h
theorem cellI (xs:List Int) (i:Nat) (h:i < xs.length):Zbm (pRow encI xs) (pI (i:Int)) 1 0=some (pI xs[i]):=by
 rw [Zav encI xs i .i64 1 0 rfl h,Zbf encI xs i 0 _ (List.getElem?_eq_getElem h) (by decide)];rfl
def mz:MarkM:=(0,0,0,0)
def Zet (ep:Int) (sn:List Int) (td:List TellM) (mk:List MarkM) (a:AskM):Int × TellM :=
 if sn.length ≠ mk.length \/ td.length ≠ mk.length \/ a.frm < 1 \/ (mk.length:Int) < a.frm \/ a.seq < 1 then (2,tz)
 else if a.epoch ≠ ep then (1,tz)
 else if a.seq < sn.getD (a.frm - 1).toNat 0 then (2,tz)
 else if (td.getD (a.frm - 1).toNat tz).seq=a.seq then (3,td.getD (a.frm - 1).toNat tz)
 else if (mk.getD (a.frm - 1).toNat mz).1=a.seq then (3,⟨1,a.frm,ep,a.seq,(mk.getD (a.frm - 1).toNat mz).2.1,(mk.getD (a.frm - 1).toNat mz).2.2.1,0,(mk.getD (a.frm - 1).toNat mz).2.2.2,e0⟩)
 else (4,tz)
theorem Zcc {ep:Int} {sn:List Int} {td:List TellM} {mk:List MarkM} {a:AskM} (h:sn.length ≠ mk.length \/ td.length ≠ mk.length \/ a.frm < 1 \/ (mk.length:Int) < a.frm \/ a.seq < 1):Zet ep sn td mk a=(2,tz):=by rw [Zet,if_pos h]
theorem Zil {ep:Int} {sn:List Int} {td:List TellM} {mk:List MarkM} {a:AskM} {i:Nat} (h1:sn.length=mk.length) (h2:td.length=mk.length) (hi:i < mk.length) (hf:a.frm=(i:Int)+1) (hs:1<=a.seq) :
  Zet ep sn td mk a=if a.epoch ≠ ep then (1,tz) else if a.seq < sn[i]'(by omega) then (2,tz) else if (td[i]'(by omega)).seq=a.seq then (3,td[i]'(by omega)) else if mk[i].1=a.seq then (3,⟨1,a.frm,ep,a.seq,mk[i].2.1,mk[i].2.2.1,0,mk[i].2.2.2,e0⟩) else (4,tz):=by
 have e:(a.frm - 1).toNat=i:=by omega
 rw [Zet,if_neg (by omega),e]
 have s1:sn.getD i 0=sn[i]'(by omega):=by simp [List.getD,List.getElem?_eq_getElem (show i < sn.length by omega)]
 have s2:td.getD i tz=td[i]'(by omega):=by simp [List.getD,List.getElem?_eq_getElem (show i < td.length by omega)]
 have s3:mk.getD i mz=mk[i]:=by simp [List.getD,List.getElem?_eq_getElem hi]
 rw [s1,s2,s3]
end Go.Proofs.Ytgdegpifjljnoaa.sjm
end
section
/- The document's Judge and Due, told. -/
namespace Go.Proofs.Ytgdegpifjljnoaa.sjd
open Go Go.RowKit eng SX Fact fil msm sjm
open sta (MarkM encM Zl1)
open myt (tP i64)
open mws (aP Zpv)
open fileFronts (Zac)
set_option linter.unusedVariables false
set_option linter.unusedSimpArgs false
set_option maxRecDepth 1000000
def EJu (k:Nat):FnE:={ k:=k,ins:=[none,none,none,none,some 8],leaks:=[false,false,false,false,false,false,false,false,false,false,false,false],outs:=[none,some 9],kinds:=[.num,.num,.num,.num,.num,.num,.num,.num,.num,.num] }
def EDu (k:Nat):FnE:={ k:=k,ins:=[some 11,none],leaks:=[false,false,false,false,false,false,false,false,false,false,false,false],outs:=[none],kinds:=[.truth] }
@[simp] def zSjd1:SX:=.bin .sub (.var 5) (.con (.int .i64 1))
@[simp] def zSjd2:List SX:=[.con (.int .i64 2),.con (.int .i64 0),.con (.int .i64 0),.con (.int .i64 0),.con (.int .i64 0),.con (.int .i64 0),.con (.int .i64 0),.con (.int .i64 0),.con (.int .i64 0),.con (.string { data:={ toList:=[] } })]
@[simp] def zSjd3:SX:=.bin .neq (.len (.var 1)) (.len (.var 3))
@[simp] def zSjd4:SX:=.bin .lss (.var 5) (.con (.int .i64 1))
@[simp] def zSjd5:SX:=.bin .neq (.len (.var 2)) (.len (.var 3))
@[simp] def zSjd6:SX:=.bin .lss (.var 7) (.con (.int .i64 1))
@[simp] def zSjd7:SX:=.bin .gtr (.var 5) (.len (.var 3))
@[simp] def zSjd8:Fact:=.ok (.len (.var 3))
@[simp] def zSjd9:SX:=.bin .gtr (.var 10) (.con (.int .i64 9223372036854775797))
@[simp] def Zia:SX:=.bin .lss (.var 7) (.cell (.var 1) zSjd1 1 0)
@[simp] def Zlc:SX:=.bin .eql (.cell (.var 2) zSjd1 9 3) (.var 7)
@[simp] def Zcy:SX:=.con (.int .i64 0)
@[simp] def Zjf:SX:=.bin .neq (.var 6) (.var 0)
@[simp] def Zo9:SX:=.bin .add (.var 10) (.con (.int .i64 10))
@[simp] def Zof:SX:=.bin .geq (.var 11) (.con (.int .i64 9223372036854775807))
@[simp] def Zgt:Fact:=.is zSjd3 (.bool false)
@[simp] def Zgs:Fact:=.is zSjd4 (.bool false)
@[simp] def Zh9:Fact:=.is zSjd5 (.bool false)
@[simp] def Zh8:Fact:=.is zSjd7 (.bool false)
@[simp] def Zh7:Fact:=.idx (.var 1) zSjd1 1 1
@[simp] def Zga:Fact:=.ok (.len (.var 1))
@[simp] def Zoe:SX:=.bin .neq (.cell (.var 3) zSjd1 4 0) (.var 7)
@[simp] def Zgr:Fact:=.ok (.len (.var 2))
@[simp] def Zje:Fact:=.is zSjd6 (.bool false)
@[simp] def Zdh:Fact:=.ok (.var 10)
@[simp] def Zdg:Fact:=.ok (.var 0)
@[simp] def Zdf:Fact:=.ok (.var 4)
@[simp] def Zde:Fact:=.ok (.var 5)
@[simp] def Zdd:Fact:=.ok (.var 6)
@[simp] def Zdc:Fact:=.ok (.var 7)
@[simp] def Zdb:Fact:=.ok (.var 9)
@[simp] def Zo8:SX:=.con (.string { data:={ toList:=[] } })
@[simp] def Zod:Fact:=.ok (.cell (.var 1) zSjd1 1 0)
@[simp] def Zoc:Fact:=.ok (.cell (.var 2) zSjd1 9 3)
@[simp] def Zml:Fact:=.idx (.var 2) zSjd1 9 9
@[simp] def Zob:SX:=.bin .geq (.var 11) Zo9
@[simp] def Zoa:Fact:=.is (.var 0) (.bool true)
@[simp] def Zf9:Fact:=.ok (.var 8)
@[simp] def Zn9:Fact:=.is Zjf (.bool false)
@[simp] def Zn8:Fact:=.idx (.var 3) zSjd1 4 4
@[simp] def Zo7:Fact:=.ok (.cell (.var 3) zSjd1 4 0)
theorem j1:runTo Try.prog fil.noOrc 10000 11 (EJu 1) [.num,.row,.row,.row,.num,.num,.num,.num,.num,.num,.num,.row] [1]=some ([Zdg,Zdf,Zde,Zdd,Zdc,Zf9,Zdb,Zdh,Zga,zSjd8,.ok zSjd3,.is zSjd3 (.bool true)],zSjd2):=by kernel_rfl
theorem j2:runTo Try.prog fil.noOrc 10000 11 (EJu 1) [.num,.row,.row,.row,.num,.num,.num,.num,.num,.num,.num,.row] [0,1]=some ([Zdg,Zdf,Zde,Zdd,Zdc,Zf9,Zdb,Zdh,Zga,zSjd8,.ok zSjd3,Zgt,Zgr,zSjd8,.ok zSjd5,.is zSjd5 (.bool true)],zSjd2):=by kernel_rfl
theorem j3:runTo Try.prog fil.noOrc 10000 11 (EJu 1) [.num,.row,.row,.row,.num,.num,.num,.num,.num,.num,.num,.row] [0,0,1]=some ([Zdg,Zdf,Zde,Zdd,Zdc,Zf9,Zdb,Zdh,Zga,zSjd8,.ok zSjd3,Zgt,Zgr,zSjd8,.ok zSjd5,Zh9,.ok zSjd4,.is zSjd4 (.bool true)],zSjd2):=by kernel_rfl
theorem j4:runTo Try.prog fil.noOrc 10000 11 (EJu 1) [.num,.row,.row,.row,.num,.num,.num,.num,.num,.num,.num,.row] [0,0,0,1]=some ([Zdg,Zdf,Zde,Zdd,Zdc,Zf9,Zdb,Zdh,Zga,zSjd8,.ok zSjd3,Zgt,Zgr,zSjd8,.ok zSjd5,Zh9,.ok zSjd4,Zgs,zSjd8,.ok zSjd7,.is zSjd7 (.bool true)],zSjd2):=by kernel_rfl
theorem j5:runTo Try.prog fil.noOrc 10000 11 (EJu 1) [.num,.row,.row,.row,.num,.num,.num,.num,.num,.num,.num,.row] [0,0,0,0,1]=some ([Zdg,Zdf,Zde,Zdd,Zdc,Zf9,Zdb,Zdh,Zga,zSjd8,.ok zSjd3,Zgt,Zgr,zSjd8,.ok zSjd5,Zh9,.ok zSjd4,Zgs,zSjd8,.ok zSjd7,Zh8,.ok zSjd6,.is zSjd6 (.bool true)],zSjd2):=by kernel_rfl
theorem js:runTo Try.prog fil.noOrc 10000 11 (EJu 1) [.num,.row,.row,.row,.num,.num,.num,.num,.num,.num,.num,.row] [0,0,0,0,0,1]=some ([Zdg,Zdf,Zde,Zdd,Zdc,Zf9,Zdb,Zdh,Zga,zSjd8,.ok zSjd3,Zgt,Zgr,zSjd8,.ok zSjd5,Zh9,.ok zSjd4,Zgs,zSjd8,.ok zSjd7,Zh8,.ok zSjd6,Zje,.ok Zjf,.is Zjf (.bool true)],[.con (.int .i64 1),Zcy,Zcy,Zcy,Zcy,Zcy,Zcy,Zcy,Zcy,Zo8]):=by kernel_rfl
theorem jo:runTo Try.prog fil.noOrc 10000 11 (EJu 1) [.num,.row,.row,.row,.num,.num,.num,.num,.num,.num,.num,.row] [0,0,0,0,0,0,1]=some ([Zdg,Zdf,Zde,Zdd,Zdc,Zf9,Zdb,Zdh,Zga,zSjd8,.ok zSjd3,Zgt,Zgr,zSjd8,.ok zSjd5,Zh9,.ok zSjd4,Zgs,zSjd8,.ok zSjd7,Zh8,.ok zSjd6,Zje,.ok Zjf,Zn9,.ok zSjd1,Zh7,Zh7,Zod,.ok Zia,.is Zia (.bool true)],zSjd2):=by kernel_rfl
theorem jt:runTo Try.prog fil.noOrc 10000 11 (EJu 1) [.num,.row,.row,.row,.num,.num,.num,.num,.num,.num,.num,.row] [0,0,0,0,0,0,0,1]=some ([Zdg,Zdf,Zde,Zdd,Zdc,Zf9,Zdb,Zdh,Zga,zSjd8,.ok zSjd3,Zgt,Zgr,zSjd8,.ok zSjd5,Zh9,.ok zSjd4,Zgs,zSjd8,.ok zSjd7,Zh8,.ok zSjd6,Zje,.ok Zjf,Zn9,.ok zSjd1,Zh7,Zh7,Zod,.ok Zia,.is Zia (.bool false),.ok zSjd1,Zml,.idx (.var 2) zSjd1 9 4,Zoc,.ok Zlc,.is Zlc (.bool true),.ok zSjd1,Zml,Zml,.ok (.cell (.var 2) zSjd1 9 0),.ok (.cell (.var 2) zSjd1 9 1),.ok (.cell (.var 2) zSjd1 9 2),Zoc,.ok (.cell (.var 2) zSjd1 9 4),.ok (.cell (.var 2) zSjd1 9 5),.ok (.cell (.var 2) zSjd1 9 6),.ok (.cell (.var 2) zSjd1 9 7),.ok (.cell (.var 2) zSjd1 9 8)],[.con (.int .i64 3),.cell (.var 2) zSjd1 9 0,.cell (.var 2) zSjd1 9 1,.cell (.var 2) zSjd1 9 2,.cell (.var 2) zSjd1 9 3,.cell (.var 2) zSjd1 9 4,.cell (.var 2) zSjd1 9 5,.cell (.var 2) zSjd1 9 6,.cell (.var 2) zSjd1 9 7,.cell (.var 2) zSjd1 9 8]):=by kernel_rfl
theorem jm:runTo Try.prog fil.noOrc 10000 11 (EJu 1) [.num,.row,.row,.row,.num,.num,.num,.num,.num,.num,.num,.row] [0,0,0,0,0,0,0,0,0,0,0,0]=some ([Zdg,Zdf,Zde,Zdd,Zdc,Zf9,Zdb,Zdh,Zga,zSjd8,.ok zSjd3,Zgt,Zgr,zSjd8,.ok zSjd5,Zh9,.ok zSjd4,Zgs,zSjd8,.ok zSjd7,Zh8,.ok zSjd6,Zje,.ok Zjf,Zn9,.ok zSjd1,Zh7,Zh7,Zod,.ok Zia,.is Zia (.bool false),.ok zSjd1,Zml,.idx (.var 2) zSjd1 9 4,Zoc,.ok Zlc,.is Zlc (.bool false),.ok zSjd4,Zgs,zSjd8,.ok zSjd7,Zh8,.ok zSjd6,Zje,.ok zSjd1,Zn8,.idx (.var 3) zSjd1 4 1,Zo7,.ok Zoe,.is Zoe (.bool false),.ok zSjd1,Zn8,Zn8,Zo7,.ok (.cell (.var 3) zSjd1 4 1),.ok (.cell (.var 3) zSjd1 4 2),.ok (.cell (.var 3) zSjd1 4 3)],[.con (.int .i64 3),.con (.int .i64 1),.var 5,.var 0,.var 7,.cell (.var 3) zSjd1 4 1,.cell (.var 3) zSjd1 4 2,Zcy,.cell (.var 3) zSjd1 4 3,Zo8]):=by kernel_rfl
theorem jf:runTo Try.prog fil.noOrc 10000 11 (EJu 1) [.num,.row,.row,.row,.num,.num,.num,.num,.num,.num,.num,.row] [0,0,0,0,0,0,0,0,0,0,0,1]=some ([Zdg,Zdf,Zde,Zdd,Zdc,Zf9,Zdb,Zdh,Zga,zSjd8,.ok zSjd3,Zgt,Zgr,zSjd8,.ok zSjd5,Zh9,.ok zSjd4,Zgs,zSjd8,.ok zSjd7,Zh8,.ok zSjd6,Zje,.ok Zjf,Zn9,.ok zSjd1,Zh7,Zh7,Zod,.ok Zia,.is Zia (.bool false),.ok zSjd1,Zml,.idx (.var 2) zSjd1 9 4,Zoc,.ok Zlc,.is Zlc (.bool false),.ok zSjd4,Zgs,zSjd8,.ok zSjd7,Zh8,.ok zSjd6,Zje,.ok zSjd1,Zn8,.idx (.var 3) zSjd1 4 1,Zo7,.ok Zoe,.is Zoe (.bool true)],[.con (.int .i64 4),Zcy,Zcy,Zcy,Zcy,Zcy,Zcy,Zcy,Zcy,Zo8]):=by kernel_rfl
theorem du0:runTo Try.prog fil.noOrc 10000 13 (EDu 1) [.num,.num,.num,.num,.num,.num,.num,.num,.row,.num,.num,.num] [0]=some ([Zdg,.ok (.var 1),.ok (.var 2),.ok (.var 3),Zdf,Zde,Zdd,Zdc,Zdb,Zdh,.ok (.var 11),.is (.var 0) (.bool false)],[.con (.bool false)]):=by kernel_rfl
theorem du11:runTo Try.prog fil.noOrc 10000 13 (EDu 1) [.num,.num,.num,.num,.num,.num,.num,.num,.row,.num,.num,.num] [1,1,1]=some ([Zdg,.ok (.var 1),.ok (.var 2),.ok (.var 3),Zdf,Zde,Zdd,Zdc,Zdb,Zdh,.ok (.var 11),Zoa,.ok zSjd9,.is zSjd9 (.bool true),.ok Zof,.is Zof (.bool true)],[.con (.bool true)]):=by kernel_rfl
theorem du10:runTo Try.prog fil.noOrc 10000 13 (EDu 1) [.num,.num,.num,.num,.num,.num,.num,.num,.row,.num,.num,.num] [1,1,0]=some ([Zdg,.ok (.var 1),.ok (.var 2),.ok (.var 3),Zdf,Zde,Zdd,Zdc,Zdb,Zdh,.ok (.var 11),Zoa,.ok zSjd9,.is zSjd9 (.bool true),.ok Zof,.is Zof (.bool false)],[.con (.bool false)]):=by kernel_rfl
theorem du01:runTo Try.prog fil.noOrc 10000 13 (EDu 1) [.num,.num,.num,.num,.num,.num,.num,.num,.row,.num,.num,.num] [1,0,1]=some ([Zdg,.ok (.var 1),.ok (.var 2),.ok (.var 3),Zdf,Zde,Zdd,Zdc,Zdb,Zdh,.ok (.var 11),Zoa,.ok zSjd9,.is zSjd9 (.bool false),.ok Zo9,.ok Zob,.is Zob (.bool true)],[.con (.bool true)]):=by kernel_rfl
theorem du00:runTo Try.prog fil.noOrc 10000 13 (EDu 1) [.num,.num,.num,.num,.num,.num,.num,.num,.row,.num,.num,.num] [1,0,0]=some ([Zdg,.ok (.var 1),.ok (.var 2),.ok (.var 3),Zdf,Zde,Zdd,Zdc,Zdb,Zdh,.ok (.var 11),Zoa,.ok zSjd9,.is zSjd9 (.bool false),.ok Zo9,.ok Zob,.is Zob (.bool false)],[.con (.bool false)]):=by kernel_rfl
@[simp] theorem kJu (k:Nat):(EJu k).k=k:=rfl
@[simp] theorem kDu (k:Nat):(EDu k).k=k:=rfl
theorem Zch:PV.v (Value.string ⟨⟨[]⟩⟩)=pS e0:=rfl
def RJu (ps qs:List PV):Prop:=∃ (ep:Int) (sn:List Int) (td:List TellM) (mk:List MarkM) (a:AskM),sn.length<=1000000/\td.length<=1000000/\mk.length<=1000000/\i64 a.frm/\ps=[pI ep,pRow encI sn,pRow encT td,pRow encM mk]++aP a/\qs=pI (Zet ep sn td mk a).1 :: tP (Zet ep sn td mk a).2
theorem fJu:∀ ps q1 q2,RJu ps q1->RJu ps q2->q1=q2:=by
 rintro ps q1 q2 ⟨ep,sn,td,mk,a,_,_,_,_,rfl,rfl⟩ ⟨ep',sn',td',mk',a',_,_,_,_,h,rfl⟩
 have h':=List.append_inj h rfl
 have h2:=Zpv h'.2
 simp only [List.cons.injEq,PV.v.injEq,Value.int.injEq,true_and,and_true] at h'
 obtain ⟨⟨rfl,h3,h4,h5⟩,_⟩:=h'
 rw [h2,fil.pRow_inj (Znj encI fun _ _ h=>encI_inj h) h3,fil.pRow_inj (Znj encT fun _ _ h=>encT_inj h) h4,fil.pRow_inj Zl1 h5]
theorem lenI (a:List Int):lenPV (pRow encI a)=some (pI (a.length:Int)):=Zaf ..
theorem lenT (a:List TellM):lenPV (pRow encT a)=some (pI (a.length:Int)):=Zaf ..
theorem lenM (a:List MarkM):lenPV (pRow encM a)=some (pI (a.length:Int)):=Zaf ..
set_option maxHeartbeats 2000000 in
theorem toldJd (k:Nat):ToldF 11 (EJu k) (spec RJu):=by
 refine Zjg mixed_ok names_ok (fun _ _=>none) [.num,.row,.row,.row,.num,.num,.num,.num,.num,.num,.num,.row] ?_
 intro ps qs h _
 obtain ⟨ep,sn,td,mk,⟨a1,a2,a3,a4,a5,a6,a7,a8⟩,hs,ht,hm,hfr,rfl,rfl⟩:=Zbk h
 clear h
 have l1:=lenI sn
 have l2:=lenT td
 have l3:=lenM mk
 have fin:∀ r:Int × TellM,Zet ep sn td mk ⟨a1,a2,a3,a4,a5,a6,a7,a8⟩=r->∀ P:List PV->Prop,P (pI r.1 :: tP r.2)->P (pI (Zet ep sn td mk ⟨a1,a2,a3,a4,a5,a6,a7,a8⟩).1 :: tP (Zet ep sn td mk ⟨a1,a2,a3,a4,a5,a6,a7,a8⟩).2):=fun r h P hP=>by rw [h];exact hP
 simp only [aP,List.cons_append,List.nil_append] at *
 by_cases h1:sn.length=mk.length
 rotate_left
 ·have d1:¬ (sn.length:Int)=(mk.length:Int):=by omega
  rw [Zcc (.inl h1)]
  refine ⟨_,_,_,_,_,_,fil.noOrc_ok,j1,fun w FP=>?_,?_⟩
  ·simp [-Zac,Zab,Zaa,Base.ev,SX.ev,evs,Value.oneCell',binPV,l1,l2,l3,d1,h1]
  ·simp [evs,SX.ev,tP,tz,Zch]
 have d1:(sn.length:Int)=(mk.length:Int):=by omega
 by_cases h2:td.length=mk.length
 rotate_left
 ·have d2:¬ (td.length:Int)=(mk.length:Int):=by omega
  rw [Zcc (.inr (.inl h2))]
  refine ⟨_,_,_,_,_,_,fil.noOrc_ok,j2,fun w FP=>?_,?_⟩
  ·simp [-Zac,Zab,Zaa,Base.ev,SX.ev,evs,Value.oneCell',binPV,l1,l2,l3,d1,d2,h1,h2]
  ·simp [evs,SX.ev,tP,tz,Zch]
 have d2:(td.length:Int)=(mk.length:Int):=by omega
 by_cases h3:a2 < 1
 ·rw [Zcc (.inr (.inr (.inl h3)))]
  refine ⟨_,_,_,_,_,_,fil.noOrc_ok,j3,fun w FP=>?_,?_⟩
  ·simp [-Zac,Zab,Zaa,Base.ev,SX.ev,evs,Value.oneCell',binPV,l1,l2,l3,d1,d2,h1,h2,h3]
  ·simp [evs,SX.ev,tP,tz,Zch]
 by_cases h4:(mk.length:Int) < a2
 ·rw [Zcc (.inr (.inr (.inr (.inl h4))))]
  refine ⟨_,_,_,_,_,_,fil.noOrc_ok,j4,fun w FP=>?_,?_⟩
  ·simp [-Zac,Zab,Zaa,Base.ev,SX.ev,evs,Value.oneCell',binPV,l1,l2,l3,d1,d2,h1,h2,h3,h4]
  ·simp [evs,SX.ev,tP,tz,Zch]
 by_cases h5:a4 < 1
 ·rw [Zcc (.inr (.inr (.inr (.inr h5))))]
  refine ⟨_,_,_,_,_,_,fil.noOrc_ok,j5,fun w FP=>?_,?_⟩
  ·simp [-Zac,Zab,Zaa,Base.ev,SX.ev,evs,Value.oneCell',binPV,l1,l2,l3,d1,d2,h1,h2,h3,h4,h5]
  ·simp [evs,SX.ev,tP,tz,Zch]
 obtain ⟨i,rfl⟩:∃ i:Nat,a2=(i:Int)+1:=⟨(a2 - 1).toNat,by omega⟩
 have hi:i < mk.length:=by omega
 have hJ:=Zil (ep:=ep) (sn:=sn) (td:=td) (mk:=mk) (a:=⟨a1,(i:Int)+1,a3,a4,a5,a6,a7,a8⟩) h1 h2 hi rfl (by show 1<=a4;omega)
 simp only at hJ
 have v1:IntKind.i64.wrap ((i:Int)+1 - 1)=(i:Int):=by rw [wrapI _ (by omega) (by omega)];omega
 have v2:IntKind.i64.wrap (i:Int)=(i:Int):=wrapI _ (by omega) (by omega)
 have hi1:i < sn.length:=by omega
 have hi2:i < td.length:=by omega
 have x1:=Za1 encI sn i 1 1 .i64 rfl hi1 (by decide)
 have x2:=Za1 encT td i 9 9 .i64 rfl hi2 (by decide)
 have x3:=Za1 encM mk i 4 4 .i64 rfl hi (by decide)
 have x4:=Za1 encT td i 9 4 .i64 rfl hi2 (by decide)
 have x5:=Za1 encM mk i 4 1 .i64 rfl hi (by decide)
 have k0:=cellI sn i hi1
 obtain ⟨t0,t1,t2,t3,t4,t5,t6,t7,t8⟩:=cellT td i hi2
 obtain ⟨m0,m1,m2,m3⟩:=Zpn mk i hi
 by_cases h6:a3=ep
 rotate_left
 ·rw [if_pos h6] at hJ
  rw [hJ]
  refine ⟨_,_,_,_,_,_,fil.noOrc_ok,js,fun w FP=>?_,?_⟩
  ·simp [-Zac,Zab,Zaa,Base.ev,SX.ev,evs,Value.oneCell',binPV,l1,l2,l3,d1,d2,h1,h2,h3,h4,h5,h6]
   all_goals omega
  ·simp [evs,SX.ev,tP,tz,Zch]
 rw [if_neg (by simp [h6])] at hJ
 by_cases h7:a4 < sn[i]
 ·rw [if_pos h7] at hJ
  rw [hJ]
  refine ⟨_,_,_,_,_,_,fil.noOrc_ok,jo,fun w FP=>?_,?_⟩
  ·simp [-Zac,Zab,Zaa,Base.ev,SX.ev,evs,Value.oneCell',binPV,l1,l2,l3,d1,d2,h1,h2,h3,h4,h5,h6,v1,v2,x1,k0,h7]
   all_goals omega
  ·simp [evs,SX.ev,tP,tz,Zch]
 rw [if_neg h7] at hJ
 by_cases h8:td[i].seq=a4
 ·rw [if_pos h8] at hJ
  rw [hJ]
  refine ⟨_,_,_,_,_,_,fil.noOrc_ok,jt,fun w FP=>?_,?_⟩
  ·simp [-Zac,Zab,Zaa,Base.ev,SX.ev,evs,Value.oneCell',binPV,l1,l2,l3,d1,d2,h1,h2,h3,h4,h5,h6,v1,v2,x1,x2,x4,k0,h7,t0,t1,t2,t3,t4,t5,t6,t7,t8,h8]
   all_goals omega
  ·simp [evs,SX.ev,binPV,v1,v2,t0,t1,t2,t3,t4,t5,t6,t7,t8,tP,h8]
 rw [if_neg h8] at hJ
 by_cases h9:mk[i].1=a4
 ·rw [if_pos h9] at hJ
  rw [hJ]
  refine ⟨_,_,_,_,_,_,fil.noOrc_ok,jm,fun w FP=>?_,?_⟩
  ·simp [-Zac,Zab,Zaa,Base.ev,SX.ev,evs,Value.oneCell',binPV,l1,l2,l3,d1,d2,h1,h2,h3,h4,h5,h6,v1,v2,x1,x2,x3,x4,x5,k0,h7,t3,h8,m0,m1,m2,m3,h9]
   all_goals omega
  ·simp [evs,SX.ev,binPV,v1,v2,m0,m1,m2,m3,tP,Zch,h6]
 ·rw [if_neg h9] at hJ
  rw [hJ]
  refine ⟨_,_,_,_,_,_,fil.noOrc_ok,jf,fun w FP=>?_,?_⟩
  ·simp [-Zac,Zab,Zaa,Base.ev,SX.ev,evs,Value.oneCell',binPV,l1,l2,l3,d1,d2,h1,h2,h3,h4,h5,h6,v1,v2,x1,x2,x3,x4,x5,k0,h7,t3,h8,m0,h9]
   all_goals omega
  ·simp [evs,SX.ev,tP,tz,Zch]
def dueM (is:Bool) (last now:Int):Bool:=is && decide ((if 9223372036854775797 < last then 9223372036854775807 else last+10)<=now)
def oP (is:Bool) (a:AskM) (first last:Int):List PV:=pB is :: (aP a++[pI first,pI last])
def RDu (ps qs:List PV):Prop:=∃ (is:Bool) (a:AskM) (first last now:Int),i64 last/\last<=9223372036854775797/\i64 now/\ps=oP is a first last++[pI now]/\qs=[pB (dueM is last now)]
theorem fDu:∀ ps q1 q2,RDu ps q1->RDu ps q2->q1=q2:=by
 rintro ps q1 q2 ⟨is,a,f,l,n,_,_,_,rfl,rfl⟩ ⟨is',a',f',l',n',_,_,_,h,rfl⟩
 obtain ⟨a1,a2,a3,a4,a5,a6,a7,a8⟩:=a
 obtain ⟨b1,b2,b3,b4,b5,b6,b7,b8⟩:=a'
 simp only [oP,aP,List.cons_append,List.nil_append,List.cons.injEq,PV.v.injEq,Value.int.injEq,Value.bool.injEq,true_and,and_true] at h
 rw [h.1,h.2.2.2.2.2.2.2.2.2.2.1,h.2.2.2.2.2.2.2.2.2.2.2]
theorem toldDd (k:Nat):ToldF 13 (EDu k) (spec RDu):=by
 refine Zjg mixed_ok names_ok (fun _ _=>none) [.num,.num,.num,.num,.num,.num,.num,.num,.row,.num,.num,.num] ?_
 intro ps qs h _
 obtain ⟨is,⟨a1,a2,a3,a4,a5,a6,a7,a8⟩,f,l,n,hl,hlm,hn,rfl,rfl⟩:=Zbk h
 clear h
 obtain ⟨hl1,hl2⟩:=hl
 simp only [oP,aP,List.cons_append,List.nil_append] at *
 cases is with
 | false =>
  refine ⟨_,_,_,_,_,_,fil.noOrc_ok,du0,fun w FP=>?_,?_⟩
  ·simp [-Zac,Zab,Zaa,Base.ev,SX.ev,evs,Value.oneCell',binPV]
  ·simp [evs,SX.ev,dueM]
 | true =>
  by_cases h1:9223372036854775797 < l
  ·by_cases h2:(9223372036854775807:Int)<=n
   ·refine ⟨_,_,_,_,_,_,fil.noOrc_ok,du11,fun w FP=>?_,?_⟩
    ·simp [-Zac,Zab,Zaa,Base.ev,SX.ev,evs,Value.oneCell',binPV,h1,h2]
    ·simp [evs,SX.ev,dueM,h1,h2]
   ·refine ⟨_,_,_,_,_,_,fil.noOrc_ok,du10,fun w FP=>?_,?_⟩
    ·simp [-Zac,Zab,Zaa,Base.ev,SX.ev,evs,Value.oneCell',binPV,h1,h2]
    ·simp [evs,SX.ev,dueM,h1,h2]
  ·have v:IntKind.i64.wrap (l+10)=l+10:=wrapI _ (by omega) (by omega)
   by_cases h2:l+10<=n
   ·refine ⟨_,_,_,_,_,_,fil.noOrc_ok,du01,fun w FP=>?_,?_⟩
    ·simp [-Zac,Zab,Zaa,Base.ev,SX.ev,evs,Value.oneCell',binPV,h1,v,h2]
    ·simp [evs,SX.ev,dueM,h1,h2]
   ·refine ⟨_,_,_,_,_,_,fil.noOrc_ok,du00,fun w FP=>?_,?_⟩
    ·simp [-Zac,Zab,Zaa,Base.ev,SX.ev,evs,Value.oneCell',binPV,h1,v,h2]
    ·simp [evs,SX.ev,dueM,h1,h2]
end Go.Proofs.Ytgdegpifjljnoaa.sjd
end
end
section
/- Package sess's Judge, told. -/
namespace Go.Proofs.Ytgdegpifjljnoaa.sjp
open Go Go.RowKit eng SX Fact fil msm sjm sjd
open sta (MarkM encM)
open mws (aP)
open myt (tP i64)
open fileFronts (Zac)
set_option linter.unusedVariables false
set_option linter.unusedSimpArgs false
set_option maxRecDepth 1000000
def isIxS:Op->Bool | .indexAddr ..=>true | _=>false
def hS (f:FuncId) (o:Oper):Option Hint:=cond (Nat.beq f 19 && isIxS o.op) (some .out) none
@[simp] def zSjp1:SX:=.bin .sub (.var 5) (.con (.int .i64 1))
@[simp] def zSjp2:SX:=.con (.int .i64 0)
@[simp] def zSjp3:SX:=.bin .neq (.len (.var 2)) (.len (.var 1))
@[simp] def zSjp4:SX:=.bin .neq (.len (.var 3)) (.len (.var 1))
@[simp] def zSjp5:List SX:=[.con (.int .i64 2),zSjp2,zSjp2,zSjp2,zSjp2,zSjp2,zSjp2,zSjp2,zSjp2,.con (.string { data:={ toList:=[] } })]
@[simp] def zSjp6:SX:=.bin .leq (.var 7) zSjp2
@[simp] def zSjp7:SX:=.bin .lss (.var 7) (.cell (.var 1) zSjp1 1 0)
@[simp] def zSjp8:Fact:=.ok (.len (.var 1))
@[simp] def zSjp9:SX:=.cell (.var 2) zSjp1 9 3
@[simp] def Zjd:SX:=.bin .neq (.var 6) (.var 0)
@[simp] def Zf8:Fact:=.idx (.var 1) zSjp1 1 1
@[simp] def Zf7:Fact:=.idx (.var 2) zSjp1 9 9
@[simp] def Zgq:Fact:=.is zSjp3 (.bool false)
@[simp] def Zgp:Fact:=.is zSjp6 (.bool false)
@[simp] def Zez:Fact:=.ok (.len (.var 2))
@[simp] def Zh6:Fact:=.is zSjp4 (.bool false)
@[simp] def Zn7:SX:=.bin .neq (.cell (.var 3) zSjp1 4 0) (.var 7)
@[simp] def Zgo:Fact:=.ok (.len (.var 3))
@[simp] def Zmk:Fact:=.ok (.cell (.var 1) zSjp1 1 0)
@[simp] def Zmj:Fact:=.ok (.cell (.var 2) zSjp1 9 0)
@[simp] def Zmi:Fact:=.ok (.cell (.var 2) zSjp1 9 1)
@[simp] def Zmh:Fact:=.ok (.cell (.var 2) zSjp1 9 2)
@[simp] def Zmg:Fact:=.ok (.cell (.var 2) zSjp1 9 4)
@[simp] def Zmf:Fact:=.ok (.cell (.var 2) zSjp1 9 5)
@[simp] def Zme:Fact:=.ok (.cell (.var 2) zSjp1 9 6)
@[simp] def Zmd:Fact:=.ok (.cell (.var 2) zSjp1 9 7)
@[simp] def Zmc:Fact:=.ok (.cell (.var 2) zSjp1 9 8)
@[simp] def Zlb:SX:=.bin .eql zSjp9 (.var 7)
@[simp] def Zo6:SX:=.con (.string { data:={ toList:=[] } })
@[simp] def Zf6:Fact:=.ok (.var 10)
@[simp] def Zf5:Fact:=.ok (.var 0)
@[simp] def Zf4:Fact:=.ok (.var 4)
@[simp] def Zf3:Fact:=.ok (.var 5)
@[simp] def Zf2:Fact:=.ok (.var 6)
@[simp] def Zf1:Fact:=.ok (.var 7)
@[simp] def Zf0:Fact:=.ok (.var 8)
@[simp] def Zfz:Fact:=.ok (.var 9)
@[simp] def Zn6:Fact:=.is Zjd (.bool false)
@[simp] def Zn5:Fact:=.idx (.var 3) zSjp1 4 4
theorem k1:runTo Try.prog fil.noOrc 10000 10 (EJu 1) [.num,.row,.row,.row,.num,.num,.num,.num,.num,.num,.num,.row] [1]=some ([Zf5,Zf4,Zf3,Zf2,Zf1,Zf0,Zfz,Zf6,Zez,zSjp8,.ok zSjp3,.is zSjp3 (.bool true)],zSjp5):=by kernel_rfl
theorem k2:runTo Try.prog fil.noOrc 10000 10 (EJu 1) [.num,.row,.row,.row,.num,.num,.num,.num,.num,.num,.num,.row] [0,1]=some ([Zf5,Zf4,Zf3,Zf2,Zf1,Zf0,Zfz,Zf6,Zez,zSjp8,.ok zSjp3,Zgq,Zgo,zSjp8,.ok zSjp4,.is zSjp4 (.bool true)],zSjp5):=by kernel_rfl
theorem k3:runTo Try.prog fil.noOrc 10000 10 (EJu 1) [.num,.row,.row,.row,.num,.num,.num,.num,.num,.num,.num,.row] [0,0,1]=some ([Zf5,Zf4,Zf3,Zf2,Zf1,Zf0,Zfz,Zf6,Zez,zSjp8,.ok zSjp3,Zgq,Zgo,zSjp8,.ok zSjp4,Zh6,.ok zSjp6,.is zSjp6 (.bool true)],zSjp5):=by kernel_rfl
theorem kn:runTo Try.prog fil.noOrc 10000 10 (EJu 1) [.num,.row,.row,.row,.num,.num,.num,.num,.num,.num,.num,.row] [0,0,0,0,0] hS=some ([Zf5,Zf4,Zf3,Zf2,Zf1,Zf0,Zfz,Zf6,Zez,zSjp8,.ok zSjp3,Zgq,Zgo,zSjp8,.ok zSjp4,Zh6,.ok zSjp6,Zgp,.ok zSjp1,zSjp8,.is (.bin .lss zSjp1 zSjp2) (.bool true),.ok zSjp1,Zez,.is (.bin .lss zSjp1 zSjp2) (.bool true)],zSjp5):=by kernel_rfl
theorem kx:runTo Try.prog fil.noOrc 10000 10 (EJu 1) [.num,.row,.row,.row,.num,.num,.num,.num,.num,.num,.num,.row] [0,0,0,1,1] hS=some ([Zf5,Zf4,Zf3,Zf2,Zf1,Zf0,Zfz,Zf6,Zez,zSjp8,.ok zSjp3,Zgq,Zgo,zSjp8,.ok zSjp4,Zh6,.ok zSjp6,Zgp,.ok zSjp1,.is (.bin .geq zSjp1 (.len (.var 1))) (.bool true),.ok zSjp1,.is (.bin .geq zSjp1 (.len (.var 2))) (.bool true)],zSjp5):=by kernel_rfl
theorem ks:runTo Try.prog fil.noOrc 10000 10 (EJu 1) [.num,.row,.row,.row,.num,.num,.num,.num,.num,.num,.num,.row] [0,0,0,1]=some ([Zf5,Zf4,Zf3,Zf2,Zf1,Zf0,Zfz,Zf6,Zez,zSjp8,.ok zSjp3,Zgq,Zgo,zSjp8,.ok zSjp4,Zh6,.ok zSjp6,Zgp,.ok zSjp1,Zf8,Zf8,Zmk,.ok zSjp1,Zf7,Zf7,Zmj,Zmi,Zmh,.ok zSjp9,Zmg,Zmf,Zme,Zmd,Zmc,.ok Zjd,.is Zjd (.bool true)],[.con (.int .i64 1),zSjp2,zSjp2,zSjp2,zSjp2,zSjp2,zSjp2,zSjp2,zSjp2,Zo6]):=by kernel_rfl
theorem ko:runTo Try.prog fil.noOrc 10000 10 (EJu 1) [.num,.row,.row,.row,.num,.num,.num,.num,.num,.num,.num,.row] [0,0,0,0,1]=some ([Zf5,Zf4,Zf3,Zf2,Zf1,Zf0,Zfz,Zf6,Zez,zSjp8,.ok zSjp3,Zgq,Zgo,zSjp8,.ok zSjp4,Zh6,.ok zSjp6,Zgp,.ok zSjp1,Zf8,Zf8,Zmk,.ok zSjp1,Zf7,Zf7,Zmj,Zmi,Zmh,.ok zSjp9,Zmg,Zmf,Zme,Zmd,Zmc,.ok Zjd,Zn6,.ok zSjp7,.is zSjp7 (.bool true)],zSjp5):=by kernel_rfl
theorem kt:runTo Try.prog fil.noOrc 10000 10 (EJu 1) [.num,.row,.row,.row,.num,.num,.num,.num,.num,.num,.num,.row] [0,0,0,0,0,1]=some ([Zf5,Zf4,Zf3,Zf2,Zf1,Zf0,Zfz,Zf6,Zez,zSjp8,.ok zSjp3,Zgq,Zgo,zSjp8,.ok zSjp4,Zh6,.ok zSjp6,Zgp,.ok zSjp1,Zf8,Zf8,Zmk,.ok zSjp1,Zf7,Zf7,Zmj,Zmi,Zmh,.ok zSjp9,Zmg,Zmf,Zme,Zmd,Zmc,.ok Zjd,Zn6,.ok zSjp7,.is zSjp7 (.bool false),.ok Zlb,.is Zlb (.bool true)],[.con (.int .i64 3),.cell (.var 2) zSjp1 9 0,.cell (.var 2) zSjp1 9 1,.cell (.var 2) zSjp1 9 2,zSjp9,.cell (.var 2) zSjp1 9 4,.cell (.var 2) zSjp1 9 5,.cell (.var 2) zSjp1 9 6,.cell (.var 2) zSjp1 9 7,.cell (.var 2) zSjp1 9 8]):=by kernel_rfl
theorem km:runTo Try.prog fil.noOrc 10000 10 (EJu 1) [.num,.row,.row,.row,.num,.num,.num,.num,.num,.num,.num,.row] [0,0,0,0,0,0,0,0]=some ([Zf5,Zf4,Zf3,Zf2,Zf1,Zf0,Zfz,Zf6,Zez,zSjp8,.ok zSjp3,Zgq,Zgo,zSjp8,.ok zSjp4,Zh6,.ok zSjp6,Zgp,.ok zSjp1,Zf8,Zf8,Zmk,.ok zSjp1,Zf7,Zf7,Zmj,Zmi,Zmh,.ok zSjp9,Zmg,Zmf,Zme,Zmd,Zmc,.ok Zjd,Zn6,.ok zSjp7,.is zSjp7 (.bool false),.ok Zlb,.is Zlb (.bool false),.ok zSjp1,Zn5,Zn5,.ok (.cell (.var 3) zSjp1 4 0),.ok (.cell (.var 3) zSjp1 4 1),.ok (.cell (.var 3) zSjp1 4 2),.ok (.cell (.var 3) zSjp1 4 3),.ok zSjp6,Zgp,.ok Zn7,.is Zn7 (.bool false)],[.con (.int .i64 3),.con (.int .i64 1),.var 5,.var 0,.var 7,.cell (.var 3) zSjp1 4 1,.cell (.var 3) zSjp1 4 2,zSjp2,.cell (.var 3) zSjp1 4 3,Zo6]):=by kernel_rfl
theorem kf:runTo Try.prog fil.noOrc 10000 10 (EJu 1) [.num,.row,.row,.row,.num,.num,.num,.num,.num,.num,.num,.row] [0,0,0,0,0,0,0,1]=some ([Zf5,Zf4,Zf3,Zf2,Zf1,Zf0,Zfz,Zf6,Zez,zSjp8,.ok zSjp3,Zgq,Zgo,zSjp8,.ok zSjp4,Zh6,.ok zSjp6,Zgp,.ok zSjp1,Zf8,Zf8,Zmk,.ok zSjp1,Zf7,Zf7,Zmj,Zmi,Zmh,.ok zSjp9,Zmg,Zmf,Zme,Zmd,Zmc,.ok Zjd,Zn6,.ok zSjp7,.is zSjp7 (.bool false),.ok Zlb,.is Zlb (.bool false),.ok zSjp1,Zn5,Zn5,.ok (.cell (.var 3) zSjp1 4 0),.ok (.cell (.var 3) zSjp1 4 1),.ok (.cell (.var 3) zSjp1 4 2),.ok (.cell (.var 3) zSjp1 4 3),.ok zSjp6,Zgp,.ok Zn7,.is Zn7 (.bool true)],[.con (.int .i64 4),zSjp2,zSjp2,zSjp2,zSjp2,zSjp2,zSjp2,zSjp2,zSjp2,Zo6]):=by kernel_rfl
theorem idx_cases (c:Int) (n:Nat) (h1:-9223372036854775808<=c) (h2:c<=9223372036854775807) (hn:n<=1000000) :
  (∃ j:Nat,c=(j:Int)+1/\j < n) \/ (¬ (1<=c/\c<=(n:Int))/\∃ z,IntKind.i64.wrap (c - 1)=z/\(z < 0 \/ (n:Int)<=z)):=by
 by_cases d:1<=c/\c<=(n:Int)
 ·exact .inl ⟨c.toNat - 1,by omega,by omega⟩
 ·refine .inr ⟨d,?_⟩
  by_cases e:c=-9223372036854775808
  ·subst e
   exact ⟨9223372036854775807,by decide,.inr (by omega)⟩
  ·exact ⟨c - 1,wrapI _ (by omega) (by omega),by omega⟩
theorem Zpd (k:Nat):ToldF 10 (EJu k) (spec RJu):=by
 refine Zjg mixed_ok names_ok (fun _ _=>none) [.num,.row,.row,.row,.num,.num,.num,.num,.num,.num,.num,.row] ?_
 intro ps qs h _
 obtain ⟨ep,sn,td,mk,⟨a1,a2,a3,a4,a5,a6,a7,a8⟩,hs,ht,hm,⟨hf1,hf2⟩,rfl,rfl⟩:=Zbk h
 clear h
 simp only at hf1 hf2
 have l1:=lenI sn
 have l2:=lenT td
 have l3:=lenM mk
 simp only [aP,List.cons_append,List.nil_append] at *
 by_cases h2:td.length=sn.length
 rotate_left
 ·have d1:¬ (td.length:Int)=(sn.length:Int):=by omega
  rw [Zcc (by omega)]
  refine ⟨_,_,_,_,_,_,fil.noOrc_ok,k1,fun w FP=>?_,?_⟩
  ·simp [-Zac,Zab,Zaa,Base.ev,SX.ev,evs,Value.oneCell',binPV,l1,l2,l3,d1,h2]
  ·simp [evs,SX.ev,tP,tz,Zch]
 have d1:(td.length:Int)=(sn.length:Int):=by omega
 by_cases h1:mk.length=sn.length
 rotate_left
 ·have d2:¬ (mk.length:Int)=(sn.length:Int):=by omega
  rw [Zcc (by omega)]
  refine ⟨_,_,_,_,_,_,fil.noOrc_ok,k2,fun w FP=>?_,?_⟩
  ·simp [-Zac,Zab,Zaa,Base.ev,SX.ev,evs,Value.oneCell',binPV,l1,l2,l3,d1,d2,h1,h2]
  ·simp [evs,SX.ev,tP,tz,Zch]
 have d2:(mk.length:Int)=(sn.length:Int):=by omega
 by_cases h5:a4<=0
 ·rw [Zcc (.inr (.inr (.inr (.inr (by show a4 < 1;omega)))))]
  refine ⟨_,_,_,_,_,_,fil.noOrc_ok,k3,fun w FP=>?_,?_⟩
  ·simp [-Zac,Zab,Zaa,Base.ev,SX.ev,evs,Value.oneCell',binPV,l1,l2,l3,d1,d2,h1,h2,h5]
  ·simp [evs,SX.ev,tP,tz,Zch]
 rcases idx_cases a2 sn.length hf1 hf2 hs with ⟨i,rfl,hi1⟩ | ⟨hno,z,hz,hout⟩
 rotate_left
 ·rw [Zcc (by show _ \/ _ \/ a2 < 1 \/ (mk.length:Int) < a2 \/ _;omega)]
  by_cases d:z < 0
  ·refine ⟨_,_,_,_,_,_,fil.noOrc_ok,kn,fun w FP=>?_,?_⟩
   ·simp [-Zac,Zab,Zaa,Base.ev,SX.ev,evs,Value.oneCell',binPV,l1,l2,l3,d1,d2,h1,h2,h5,hz,d]
    all_goals omega
   ·simp [evs,SX.ev,tP,tz,Zch]
  ·have d':(sn.length:Int)<=z:=by omega
   have d'':(td.length:Int)<=z:=by omega
   refine ⟨_,_,_,_,_,_,fil.noOrc_ok,kx,fun w FP=>?_,?_⟩
   ·simp [-Zac,Zab,Zaa,Base.ev,SX.ev,evs,Value.oneCell',binPV,l1,l2,l3,d1,d2,h1,h2,h5,hz,d,d',d'']
    all_goals omega
   ·simp [evs,SX.ev,tP,tz,Zch]
 have hi:i < mk.length:=by omega
 have hi2:i < td.length:=by omega
 have hJ:=Zil (ep:=ep) (sn:=sn) (td:=td) (mk:=mk) (a:=⟨a1,(i:Int)+1,a3,a4,a5,a6,a7,a8⟩) (by omega) (by omega) hi rfl (by show 1<=a4;omega)
 simp only at hJ
 have v1:IntKind.i64.wrap ((i:Int)+1 - 1)=(i:Int):=by rw [wrapI _ (by omega) (by omega)];omega
 have v2:IntKind.i64.wrap (i:Int)=(i:Int):=wrapI _ (by omega) (by omega)
 have x1:=Za1 encI sn i 1 1 .i64 rfl hi1 (by decide)
 have x2:=Za1 encT td i 9 9 .i64 rfl hi2 (by decide)
 have x3:=Za1 encM mk i 4 4 .i64 rfl hi (by decide)
 have k0:=cellI sn i hi1
 obtain ⟨t0,t1,t2,t3,t4,t5,t6,t7,t8⟩:=cellT td i hi2
 obtain ⟨m0,m1,m2,m3⟩:=Zpn mk i hi
 by_cases h6:a3=ep
 rotate_left
 ·rw [if_pos h6] at hJ
  rw [hJ]
  refine ⟨_,_,_,_,_,_,fil.noOrc_ok,ks,fun w FP=>?_,?_⟩
  ·simp [-Zac,Zab,Zaa,Base.ev,SX.ev,evs,Value.oneCell',binPV,l1,l2,l3,d1,d2,h1,h2,h5,h6,v1,v2,x1,x2,k0,t0,t1,t2,t3,t4,t5,t6,t7,t8]
   all_goals omega
  ·simp [evs,SX.ev,tP,tz,Zch]
 rw [if_neg (by simp [h6])] at hJ
 by_cases h7:a4 < sn[i]
 ·rw [if_pos h7] at hJ
  rw [hJ]
  refine ⟨_,_,_,_,_,_,fil.noOrc_ok,ko,fun w FP=>?_,?_⟩
  ·simp [-Zac,Zab,Zaa,Base.ev,SX.ev,evs,Value.oneCell',binPV,l1,l2,l3,d1,d2,h1,h2,h5,h6,v1,v2,x1,x2,k0,t0,t1,t2,t3,t4,t5,t6,t7,t8,h7]
   all_goals omega
  ·simp [evs,SX.ev,tP,tz,Zch]
 rw [if_neg h7] at hJ
 by_cases h8:td[i].seq=a4
 ·rw [if_pos h8] at hJ
  rw [hJ]
  refine ⟨_,_,_,_,_,_,fil.noOrc_ok,kt,fun w FP=>?_,?_⟩
  ·simp [-Zac,Zab,Zaa,Base.ev,SX.ev,evs,Value.oneCell',binPV,l1,l2,l3,d1,d2,h1,h2,h5,h6,v1,v2,x1,x2,k0,t0,t1,t2,t3,t4,t5,t6,t7,t8,h7,h8]
   all_goals omega
  ·simp [evs,SX.ev,binPV,v1,v2,t0,t1,t2,t3,t4,t5,t6,t7,t8,tP,h8]
 rw [if_neg h8] at hJ
 by_cases h9:mk[i].1=a4
 ·rw [if_pos h9] at hJ
  rw [hJ]
  refine ⟨_,_,_,_,_,_,fil.noOrc_ok,km,fun w FP=>?_,?_⟩
  ·simp [-Zac,Zab,Zaa,Base.ev,SX.ev,evs,Value.oneCell',binPV,l1,l2,l3,d1,d2,h1,h2,h5,h6,v1,v2,x1,x2,x3,k0,t0,t1,t2,t3,t4,t5,t6,t7,t8,h7,h8,m0,m1,m2,m3,h9]
   all_goals omega
  ·simp [evs,SX.ev,binPV,v1,v2,m0,m1,m2,m3,tP,Zch,h6]
 ·rw [if_neg h9] at hJ
  rw [hJ]
  refine ⟨_,_,_,_,_,_,fil.noOrc_ok,kf,fun w FP=>?_,?_⟩
  ·simp [-Zac,Zab,Zaa,Base.ev,SX.ev,evs,Value.oneCell',binPV,l1,l2,l3,d1,d2,h1,h2,h5,h6,v1,v2,x1,x2,x3,k0,t0,t1,t2,t3,t4,t5,t6,t7,t8,h7,h8,m0,m1,m2,m3,h9]
   all_goals omega
  ·simp [evs,SX.ev,tP,tz,Zch]
end Go.Proofs.Ytgdegpifjljnoaa.sjp
end
