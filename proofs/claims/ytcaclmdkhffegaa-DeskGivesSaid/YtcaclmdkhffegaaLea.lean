/- Texts joined. -/
import Derived.Test.YtcaclmdkhffegaaMrg4
import Derived.Test.YtcaclmdkhffegaaFrame
import Derived.Test.YtcaclmdkhffegaaWlm
section
/- Texts joined. -/
section
/- What the symbolic engine's user needs, more of it. -/
namespace Go.Proofs.Ytcaclmdkhffegaa.eng
open Go Go.RowKit
set_option linter.unusedVariables false
set_option linter.unusedSimpArgs false
@[simp] theorem ex_kz (k0:IntKind) (x:Int) (p:Int->Prop):(∃ k z,(k0=k/\x=z)/\p z) ↔ p x:=⟨fun ⟨_,_,⟨_,h⟩,hp⟩=>h ▸ hp,fun h=>⟨_,_,⟨rfl,rfl⟩,h⟩⟩
@[simp] theorem ex_one:(∃ z:Nat,(1:Int)=(z:Int)) ↔ True:=⟨fun _=>trivial,fun _=>⟨1,rfl⟩⟩
@[simp] theorem ex_one' (K:Nat):(∃ z:Nat,(1:Int)=(z:Int)/\z<=K) ↔ 1<=K:=⟨fun ⟨z,h,h2⟩=>by omega,fun h=>⟨1,rfl,h⟩⟩
theorem all_len {α:Type} (E:Enc α) (xs:List α):(E.all xs).length=xs.length * E.sz:=E.all_length xs
theorem r_catE {α:Type} (E:Enc α) (a b:List α):ropPV .cat [pRow E a,pRow E b]=some (pRow E (a++b)):=by simp [ropPV,pRow,Enc.all]
theorem r_cat0 {α:Type} (E:Enc α) (b:List α):ropPV .cat [.row 0 [],pRow E b]=some (pRow E b):=by simp [ropPV,pRow]
theorem all_split' {α:Type} (E:Enc α) (xs:List α) (i:Nat) (h:i < xs.length):E.all xs=E.all (xs.take i)++(E.enc xs[i]++E.all (xs.drop (i+1))):=by
 rw [<- Enc.all_cons,<- Enc.all_append,<- List.drop_eq_getElem_cons h,List.take_append_drop]
theorem set_split {α:Type} (xs:List α) (i:Nat) (x:α) (h:i < xs.length):xs.set i x=xs.take i++x :: xs.drop (i+1):=by
 rw [List.set_eq_take_append_cons_drop,if_pos h]
theorem r_updE {α:Type} (E:Enc α) (xs:List α) (i:Nat) (k:IntKind) (x:α) (h:i < xs.length):ropPV (.upd E.sz 0) (pRow E xs :: .v (.int k (i:Int)) :: (E.enc x).map .v)=some (pRow E (xs.set i x)):=by
 have h0:(0:Int)<=(i:Int):=by omega
 have h1:(i:Int) < (xs.length:Int):=by omega
 have hl:(E.all (xs.take i)).length=i * E.sz:=by rw [all_len,List.length_take,Nat.min_eq_left (by omega)]
 have hp:putPV ((E.all xs).map PV.v) (i * E.sz) ((E.enc x).map PV.v)=(E.all (xs.set i x)).map PV.v:=by
  rw [set_split xs i x h,Enc.all_append,Enc.all_cons,all_split' E xs i h]
  simp only [putPV,List.length_map,E.len,<- hl,List.map_append]
  rw [List.take_left' (by simp),<- List.append_assoc ((E.all (xs.take i)).map PV.v),List.drop_left' (by simp [E.len]),List.append_assoc]
 simp [ropPV,pRow,h1,E.len,hp]
def IdxP (p q:Option PV) (sz sub:Nat):Prop:=∃ n cs k z,p=some (.row n cs)/\q=some (.v (.int k z))/\0<=z/\z < (n:Int)/\z.toNat * sz+sub<=cs.length
theorem Zab (B:Base) (e i:SX) (sz sub:Nat):(Fact.idx e i sz sub).holds B ↔ IdxP (B.ev e) (B.ev i) sz sub:=Iff.rfl
theorem Zan {α:Type} (E:Enc α) (xs:List α) (j sz sub:Nat) (k:IntKind) (hz:sz=E.sz) (h:j < xs.length) (hs:sub<=E.sz):IdxP (some (pRow E xs)) (some (.v (.int k (j:Int)))) sz sub:=by
 subst hz
 refine ⟨_,_,_,_,rfl,rfl,by omega,by omega,?_⟩
 rw [List.length_map,E.all_length]
 have:(j+1) * E.sz<=xs.length * E.sz:=Nat.mul_le_mul_right _ h
 rw [Nat.add_mul] at this
 simp
 omega
def CellsP (p:Option PV) (sz:Nat):Prop:=∃ (n:Nat) (vs:List Value),p=some (.row n (vs.map PV.v))/\vs.length=n * sz/\n<=maxLen/\∀ v ∈ vs,v.oneCell'=true
theorem Zaa (B:Base) (e:SX) (sz:Nat):(Fact.cells e sz).holds B ↔ CellsP (B.ev e) sz:=Iff.rfl
theorem Zgi {α:Type} (E:Enc α) (xs:List α) (sz:Nat) (hz:sz=E.sz) (hl:xs.length<=1000000000):CellsP (some (pRow E xs)) sz:=by
 subst hz
 refine ⟨xs.length,E.all xs,rfl,all_len E xs,?_,fun v hv=>E.all_one' xs v hv⟩
 have:maxLen=9223372036854775807:=by unfold maxLen;simp [IntKind.max]
 omega
@[simp] theorem ex_zero:(∃ z:Nat,(0:Int)=(z:Int)) ↔ True:=⟨fun _=>trivial,fun _=>⟨0,rfl⟩⟩
@[simp] theorem ex_two:(∃ z:Nat,(2:Int)=(z:Int)) ↔ True:=⟨fun _=>trivial,fun _=>⟨2,rfl⟩⟩
def Zbg:Code->Code | .block _ b=>b | _=>.skip
theorem Zcj {P:Program} {id:Nat} {c:Code} {k:List Code} {Q:Exit->Act->World->Prop} {a:Act} {w:World}
  (h:wpL P (flat c) (fun e a' w'=>(e=.normal/\wpL P k Q a' w') \/ (e=.exit id/\wpL P k Q a' w') \/ (e=.ret/\Q .ret a' w') \/ (∃ j,j ≠ id/\e=.exit j/\Q (.exit j) a' w') \/ (∃ ch,e=.panic ch/\Q (.panic ch) a' w')) a w):wpL P (.block id c :: k) Q a w:=by
 refine wp_block (wp_mono (Zcx h) ?_)
 rintro e a' w' (⟨rfl,hk⟩ | ⟨rfl,hk⟩ | ⟨rfl,hq⟩ | ⟨j,hj,rfl,hq⟩ | ⟨ch,rfl,hq⟩)
 ·exact hk
 ·simp only [Exit.inBlock,if_true]
  exact hk
 ·exact hq
 ·simp only [Exit.inBlock,if_neg hj]
  exact hq
 ·exact hq
end Go.Proofs.Ytcaclmdkhffegaa.eng
end
section
/- Slices of arrays of bytes, of any length, as rows. -/
namespace Go.Proofs.Ytcaclmdkhffegaa.grd
open Go Go.RowKit eng
set_option linter.unusedVariables false
set_option linter.unusedSimpArgs false

end Go.Proofs.Ytcaclmdkhffegaa.grd
end
end
section
/- Leases: package lease's order, found, Holds, told. -/
namespace Go.Proofs.Ytcaclmdkhffegaa.lea
open Go Go.RowKit eng SX Fact fil lem
set_option linter.unusedVariables false
set_option linter.unusedSimpArgs false
set_option maxRecDepth 1000000

def ECmp (k:Nat):FnE:={ k:=k,ins:=[none,none],leaks:=[false,false],outs:=[none],kinds:=[.num] }
def EOrd (k:Nat):FnE:={ k:=k,ins:=[some 4,some 4],leaks:=List.replicate 8 false,outs:=[none],kinds:=[.num] }
def tabC (f:FuncId):Option FnE:=cond (Nat.beq f 101) (some (ECmp 1)) none
def EFo (k:Nat):FnE:={ k:=k,ins:=[none,none,none],leaks:=[false,false,false],outs:=[some 4],kinds:=[.num,.num,.num,.num] }
def EHo (k:Nat):FnE:={ k:=k,ins:=[none,none,none,none],leaks:=[false,false,false,false],outs:=[none],kinds:=[.num] }
noncomputable def flB:=flat (Za1 Try.prog 89)
noncomputable def lpB:=flat (Zah (nth flB 1))
def shB:Shape:=⟨[(0,.leaf)],[],[some false],27,89⟩
def shBl:Shape:=⟨[(0,.leaf),(4,.leaf),(5,.leaf),(6,.leaf)],[],[some false,some false,none,none],27,89⟩
def shBR:Shape:=⟨[],[],[],27,89⟩
def EMust (k:Nat):FnE:={ k:=k,ins:=[none],leaks:=[false],outs:=[],kinds:=[] }
def Zfn (k:Nat):FnE:={ k:=k,ins:=[some 4],leaks:=[false,false,false,false],outs:=[],kinds:=[] }
def EMayL (k:Nat):FnE:={ k:=k,ins:=[none],leaks:=[false],outs:=[none],kinds:=[.num] }
def tabO (f:FuncId):Option FnE:=cond (Nat.beq f 92) (some (EOrd 2)) (cond (Nat.beq f 90) (some (Zfn 3)) none)
def tabB (f:FuncId):Option FnE:=cond (Nat.beq f 89) (some (EMust 5)) none
@[simp] def zLea1:List SX:=[.cell (.var 0) (.bin .sub (.var 3) (.con (.int .i64 1))) 4 0,.cell (.var 0) (.bin .sub (.var 3) (.con (.int .i64 1))) 4 1,.cell (.var 0) (.bin .sub (.var 3) (.con (.int .i64 1))) 4 2,.cell (.var 0) (.bin .sub (.var 3) (.con (.int .i64 1))) 4 3,.cell (.var 1) (.var 3) 4 0,.cell (.var 1) (.var 3) 4 1,.cell (.var 1) (.var 3) 4 2,.cell (.var 1) (.var 3) 4 3]
@[simp] def zLea2:SX:=.con (.int .i64 0)
@[simp] def zLea3:SX:=.con (.int .i64 1)
@[simp] def zLea4:SX:=.bin .neq (.fn 1 [.var 1,.var 5] 0) zLea2
@[simp] def zLea5:SX:=.fn 1 [.var 0,.var 4] 0
@[simp] def zLea6:Fact:=.fn 90 (Zfn 3) [.cell (.var 1) (.var 3) 4 0,.cell (.var 1) (.var 3) 4 1,.cell (.var 1) (.var 3) 4 2,.cell (.var 1) (.var 3) 4 3]
@[simp] def zLea7:SX:=.bin .sub (.var 3) zLea3
@[simp] def zLea8:SX:=.bin .neq (.var 0) (.var 0)
@[simp] def zLea9:SX:=.bin .neq (.var 1) (.var 1)
@[simp] def Zle:SX:=.bin .lss (.var 0) (.var 1)
@[simp] def Zld:SX:=.bin .lss (.var 3) (.var 2)
@[simp] def Zlc:SX:=.bin .add (.var 3) zLea3
@[simp] def Zoz:SX:=.bin .gtr (.var 0) (.var 1)
@[simp] def Zjz:List SX:=[.var 1,.var 5]
@[simp] def Zoy:Fact:=.idx (.var 1) (.var 3) 4 4
@[simp] def Zqk:Fact:=.fn 101 (ECmp 1) [.var 0,.var 4]
@[simp] def Zox:SX:=.bin .gtr (.var 3) zLea2
@[simp] def zLea18:SX:=.bin .gtr (.var 3) (.con (.int .i64 9223372036854775807))
theorem c1:runTo Try.prog fil.noOrc 10000 101 (ECmp 1) [.num,.num] [0,0,1]=some ([.ok (.var 0),.ok (.var 1),.ok zLea8,.is zLea8 (.bool false),.ok zLea9,.is zLea9 (.bool false),.ok Zle,.is Zle (.bool true)],[.con (.int .i64 (Int.negSucc 0))]):=by kernel_rfl
theorem c01:runTo Try.prog fil.noOrc 10000 101 (ECmp 1) [.num,.num] [0,0,0,1]=some ([.ok (.var 0),.ok (.var 1),.ok zLea8,.is zLea8 (.bool false),.ok zLea9,.is zLea9 (.bool false),.ok Zle,.is Zle (.bool false),.ok Zoz,.is Zoz (.bool true)],[zLea3]):=by kernel_rfl
theorem c00:runTo Try.prog fil.noOrc 10000 101 (ECmp 1) [.num,.num] [0,0,0,0]=some ([.ok (.var 0),.ok (.var 1),.ok zLea8,.is zLea8 (.bool false),.ok zLea9,.is zLea9 (.bool false),.ok Zle,.is Zle (.bool false),.ok Zoz,.is Zoz (.bool false)],[zLea2]):=by kernel_rfl
theorem o1:runTo Try.prog (orcFn tabC) 10000 92 (EOrd 2) [.num,.num,.num,.num,.num,.num,.num,.num] [1]=some ([.ok (.var 0),.ok (.var 1),.ok (.var 2),.ok (.var 3),.ok (.var 4),.ok (.var 5),.ok (.var 6),.ok (.var 7),.fn 101 (ECmp 1) Zjz,.ok (.fn 1 Zjz 0),Zqk,.ok zLea5,.ok zLea4,.is zLea4 (.bool true)],[.fn 1 Zjz 0]):=by kernel_rfl
theorem o01:runTo Try.prog (orcFn tabC) 10000 92 (EOrd 2) [.num,.num,.num,.num,.num,.num,.num,.num] [0,1]=some ([.ok (.var 0),.ok (.var 1),.ok (.var 2),.ok (.var 3),.ok (.var 4),.ok (.var 5),.ok (.var 6),.ok (.var 7),.fn 101 (ECmp 1) Zjz,.ok (.fn 1 Zjz 0),Zqk,.ok zLea5,.ok zLea4,.is zLea4 (.bool false),.ok (.bin .neq zLea5 zLea2),.is (.bin .neq zLea5 zLea2) (.bool true)],[zLea5]):=by kernel_rfl
theorem o00:runTo Try.prog (orcFn tabC) 10000 92 (EOrd 2) [.num,.num,.num,.num,.num,.num,.num,.num] [0,0]=some ([.ok (.var 0),.ok (.var 1),.ok (.var 2),.ok (.var 3),.ok (.var 4),.ok (.var 5),.ok (.var 6),.ok (.var 7),.fn 101 (ECmp 1) Zjz,.ok (.fn 1 Zjz 0),Zqk,.ok zLea5,.ok zLea4,.is zLea4 (.bool false),.ok (.bin .neq zLea5 zLea2),.is (.bin .neq zLea5 zLea2) (.bool false)],[zLea2]):=by kernel_rfl
theorem ml:runTo Try.prog fil.noOrc 10000 90 (Zfn 3) [.num,.num,.num,.num] [0,0,0,0,0,0,0,0]=some ([.ok (.var 0),.ok (.var 1),.ok (.var 2),.ok (.var 3),.ok (.bin .lss (.var 0) zLea3),.is (.bin .lss (.var 0) zLea3) (.bool false),.ok (.bin .gtr (.var 0) (.con (.int .i64 3))),.is (.bin .gtr (.var 0) (.con (.int .i64 3))) (.bool false),.ok (.bin .lss (.var 1) zLea3),.is (.bin .lss (.var 1) zLea3) (.bool false),.ok (.bin .gtr (.var 1) (.con (.int .i64 6))),.is (.bin .gtr (.var 1) (.con (.int .i64 6))) (.bool false),.ok (.bin .lss (.var 2) zLea3),.is (.bin .lss (.var 2) zLea3) (.bool false),.ok (.bin .gtr (.var 2) (.con (.int .i64 2))),.is (.bin .gtr (.var 2) (.con (.int .i64 2))) (.bool false),.ok (.bin .lss (.var 3) zLea2),.is (.bin .lss (.var 3) zLea2) (.bool false),.ok zLea18,.is zLea18 (.bool false)],[]):=by kernel_rfl
theorem preB:segTo Try.prog (orcFn tabO) 10000 (flB.take 1) shB [] shBl []=some (.normal,[.ok (.len (.var 0)),.ok (.len (.var 0)),.ok zLea2],[.var 0,.var 0,.len (.var 0),zLea2]):=by kernel_rfl
theorem exB:segTo Try.prog (orcFn tabO) 10000 lpB shBl [0] shBR []=some (.exit 0,[.ok Zld,.is Zld (.bool false)],[]):=by kernel_rfl
theorem onB0:segTo Try.prog (orcFn tabO) 10000 lpB shBl [1,0] shBl []=some (.normal,[.ok Zld,.is Zld (.bool true),Zoy,Zoy,.ok (.cell (.var 1) (.var 3) 4 0),.ok (.cell (.var 1) (.var 3) 4 1),.ok (.cell (.var 1) (.var 3) 4 2),.ok (.cell (.var 1) (.var 3) 4 3),zLea6,.ok Zox,.is Zox (.bool false),.ok Zlc,.ok (.var 2),.ok Zlc],[.var 0,.var 1,.var 2,Zlc]):=by kernel_rfl
theorem onB1:segTo Try.prog (orcFn tabO) 10000 lpB shBl [1,1,0] shBl []=some (.normal,[.ok Zld,.is Zld (.bool true),Zoy,Zoy,.ok (.cell (.var 1) (.var 3) 4 0),.ok (.cell (.var 1) (.var 3) 4 1),.ok (.cell (.var 1) (.var 3) 4 2),.ok (.cell (.var 1) (.var 3) 4 3),zLea6,.ok Zox,.is Zox (.bool true),.ok zLea7,.idx (.var 0) zLea7 4 4,.idx (.var 0) zLea7 4 4,.ok (.cell (.var 0) zLea7 4 0),.ok (.cell (.var 0) zLea7 4 1),.ok (.cell (.var 0) zLea7 4 2),.ok (.cell (.var 0) zLea7 4 3),.fn 92 (EOrd 2) zLea1,.ok (.fn 2 zLea1 0),.ok (.bin .geq (.fn 2 zLea1 0) zLea2),.is (.bin .geq (.fn 2 zLea1 0) zLea2) (.bool false),.ok Zlc,.ok (.var 2),.ok Zlc],[.var 0,.var 1,.var 2,Zlc]):=by kernel_rfl
def cmpI (a b:Int):Int:=if a < b then -1 else if b < a then 1 else 0
def ordL (a b:LeM):Int:=if cmpI a.2.1 b.2.1=0 then cmpI a.1 b.1 else cmpI a.2.1 b.2.1
def okL (x:LeM):Prop:=1<=x.1/\x.1<=3/\1<=x.2.1/\x.2.1<=6/\1<=x.2.2.1/\x.2.2.1<=2/\0<=x.2.2.2/\x.2.2.2<=9223372036854775807
def isL (c f:Int) (x:LeM):Bool:=x.1 == c && x.2.1 == f
def MayL (l:List LeM):Prop:=l.length<=1000000/\(∀ x ∈ l,okL x)/\∀ (i:Nat) (h:i+1 < l.length),ordL l[i] l[i+1] < 0
theorem Zar:∀ xs ys:List LeM,encL.all xs=encL.all ys->xs=ys
 | [],[],_=>rfl
 | [],_ :: _,h=>by simp [Enc.all,encL] at h
 | _ :: _,[],h=>by simp [Enc.all,encL] at h
 | x :: xs,y :: ys,h=>by
  rw [Enc.all_cons,Enc.all_cons] at h
  obtain ⟨h1,h2⟩:=List.append_inj h (by rw [encL.len,encL.len])
  simp only [encL,List.cons.injEq,Value.int.injEq,true_and,and_true] at h1
  rw [Prod.ext h1.1 (Prod.ext h1.2.1 (Prod.ext h1.2.2.1 h1.2.2.2)),Zar xs ys h2]
theorem cellL (l:List LeM) (i:Nat) (h:i < l.length):Zd3 (pRow encL l) (pI (i:Int)) 4 0=some (pI l[i].1)/\Zd3 (pRow encL l) (pI (i:Int)) 4 1=some (pI l[i].2.1)/\Zd3 (pRow encL l) (pI (i:Int)) 4 2=some (pI l[i].2.2.1)/\Zd3 (pRow encL l) (pI (i:Int)) 4 3=some (pI l[i].2.2.2):=by
 have h2:l[i]?=some l[i]:=List.getElem?_eq_getElem h
 refine ⟨?_,?_,?_,?_⟩
 ·rw [Zca encL l i .i64 4 0 rfl h,Zdp encL l i 0 _ h2 (by decide)];rfl
 ·rw [Zca encL l i .i64 4 1 rfl h,Zdp encL l i 1 _ h2 (by decide)];rfl
 ·rw [Zca encL l i .i64 4 2 rfl h,Zdp encL l i 2 _ h2 (by decide)];rfl
 ·rw [Zca encL l i .i64 4 3 rfl h,Zdp encL l i 3 _ h2 (by decide)];rfl
@[simp] theorem kCmp (k:Nat):(ECmp k).k=k:=rfl
@[simp] theorem kOrd (k:Nat):(EOrd k).k=k:=rfl
@[simp] theorem kFo (k:Nat):(EFo k).k=k:=rfl
@[simp] theorem kHo (k:Nat):(EHo k).k=k:=rfl
@[simp] theorem kMust (k:Nat):(EMust k).k=k:=rfl
@[simp] theorem kMustL (k:Nat):(Zfn k).k=k:=rfl
@[simp] theorem kMayL (k:Nat):(EMayL k).k=k:=rfl
def RCmp (ps qs:List PV):Prop:=∃ a b:Int,ps=[pI a,pI b]/\qs=[pI (cmpI a b)]
theorem fCmp:∀ ps q1 q2,RCmp ps q1->RCmp ps q2->q1=q2:=by
 rintro ps q1 q2 ⟨a,b,rfl,rfl⟩ ⟨a',b',h,rfl⟩
 simp only [List.cons.injEq,PV.v.injEq,Value.int.injEq,true_and,and_true] at h
 obtain ⟨rfl,rfl⟩:=h;rfl
theorem toldCmp (k:Nat):ToldF 101 (ECmp k) (spec RCmp):=by
 refine Zbr mixed_ok names_ok (fun _ _=>none) [.num,.num] ?_
 intro ps qs h _
 obtain ⟨a,b,rfl,rfl⟩:=Zal h
 by_cases d1:a < b
 ·refine ⟨_,_,_,_,_,_,fil.noOrc_ok,c1,fun w FP=>?_,?_⟩
  ·simp [Base.ev,SX.ev,evs,Value.oneCell',binPV,d1]
  ·simp [evs,SX.ev,cmpI,d1]
 by_cases d2:b < a
 ·refine ⟨_,_,_,_,_,_,fil.noOrc_ok,c01,fun w FP=>?_,?_⟩
  ·simp [Base.ev,SX.ev,evs,Value.oneCell',binPV,d1,d2]
  ·simp [evs,SX.ev,cmpI,d1,d2]
 ·refine ⟨_,_,_,_,_,_,fil.noOrc_ok,c00,fun w FP=>?_,?_⟩
  ·simp [Base.ev,SX.ev,evs,Value.oneCell',binPV,d1,d2]
  ·simp [evs,SX.ev,cmpI,d1,d2]
def p4 (x:LeM):List PV:=[pI x.1,pI x.2.1,pI x.2.2.1,pI x.2.2.2]
theorem Zjh {x y:LeM} (h:p4 x=p4 y):x=y:=by
 obtain ⟨a,b,c,d⟩:=x
 obtain ⟨a',b',c',d'⟩:=y
 simp only [p4,List.cons.injEq,PV.v.injEq,Value.int.injEq,true_and,and_true] at h
 obtain ⟨rfl,rfl,rfl,rfl⟩:=h;rfl
def ROrd (ps qs:List PV):Prop:=∃ a b:LeM,ps=p4 a++p4 b/\qs=[pI (ordL a b)]
theorem fOrd:∀ ps q1 q2,ROrd ps q1->ROrd ps q2->q1=q2:=by
 rintro ps q1 q2 ⟨a,b,rfl,rfl⟩ ⟨a',b',h,rfl⟩
 obtain ⟨h1,h2⟩:=List.append_inj h rfl
 rw [Zjh h1,Zjh h2]
noncomputable def FL:Fns:=fun k=>match k with | 1=>spec RCmp | _=>fun _=>none
theorem FL1 (a b:Int):FL 1 [pI a,pI b]=some [pI (cmpI a b)]:=Zam fCmp ⟨a,b,rfl,rfl⟩
theorem t1:ToldF 101 (ECmp 1) (FL 1):=toldCmp 1
theorem toldOrd (k:Nat):ToldF 92 (EOrd k) (spec ROrd):=by
 refine Zbr mixed_ok names_ok FL [.num,.num,.num,.num,.num,.num,.num,.num] ?_
 intro ps qs h _
 obtain ⟨⟨a0,a1,a2,a3⟩,⟨b0,b1,b2,b3⟩,rfl,rfl⟩:=Zal h
 have g1:=FL1 a1 b1
 have g2:=FL1 a0 b0
 by_cases d1:cmpI a1 b1=0
 ·by_cases d2:cmpI a0 b0=0
  ·have e:ordL (a0,a1,a2,a3) (b0,b1,b2,b3)=0:=by simp [ordL,d1,d2]
   rw [e]
   rw [d1] at g1;rw [d2] at g2
   refine ⟨_,_,_,_,_,_,Zae tabC,o00,fun w FP=>?_,?_⟩
   ·simp [Base.ev,SX.ev,evs,Value.oneCell',p4,g1,g2,t1,binPV]
   ·simp [evs,SX.ev]
  ·have e:ordL (a0,a1,a2,a3) (b0,b1,b2,b3)=cmpI a0 b0:=by simp [ordL,d1]
   rw [e]
   rw [d1] at g1
   generalize cmpI a0 b0=z at *
   refine ⟨_,_,_,_,_,_,Zae tabC,o01,fun w FP=>?_,?_⟩
   ·simp [Base.ev,SX.ev,evs,Value.oneCell',p4,g1,g2,t1,binPV,d2]
   ·simp [evs,SX.ev,p4,g2]
 ·have e:ordL (a0,a1,a2,a3) (b0,b1,b2,b3)=cmpI a1 b1:=by simp [ordL,d1]
  rw [e]
  generalize cmpI a1 b1=z at *
  refine ⟨_,_,_,_,_,_,Zae tabC,o1,fun w FP=>?_,?_⟩
  ·simp [Base.ev,SX.ev,evs,Value.oneCell',p4,g1,g2,t1,binPV,d1]
  ·simp [evs,SX.ev,p4,g1]
def RMl (ps qs:List PV):Prop:=∃ x:LeM,okL x/\ps=p4 x/\qs=[]
theorem fMl:∀ ps q1 q2,RMl ps q1->RMl ps q2->q1=q2:=by
 rintro ps q1 q2 ⟨x,_,rfl,rfl⟩ ⟨x',_,h,rfl⟩;rfl
theorem toldMl (k:Nat):ToldF 90 (Zfn k) (spec RMl):=by
 refine Zbr mixed_ok names_ok (fun _ _=>none) [.num,.num,.num,.num] ?_
 intro ps qs h _
 obtain ⟨⟨a0,a1,a2,a3⟩,⟨h1,h2,h3,h4,h5,h6,h7,h8⟩,rfl,rfl⟩:=Zal h
 simp only at h1 h2 h3 h4 h5 h6 h7 h8
 refine ⟨_,_,_,_,_,_,fil.noOrc_ok,ml,fun w FP=>?_,?_⟩
 ·simp [Base.ev,SX.ev,evs,Value.oneCell',p4,binPV]
  all_goals omega
 ·simp [evs]
noncomputable def FO:Fns:=fun k=>match k with | 2=>spec ROrd | 3=>spec RMl | _=>fun _=>none
theorem FO2 (a b:LeM):FO 2 [pI a.1,pI a.2.1,pI a.2.2.1,pI a.2.2.2,pI b.1,pI b.2.1,pI b.2.2.1,pI b.2.2.2]=some [pI (ordL a b)]:=Zam fOrd ⟨a,b,rfl,rfl⟩
theorem FO3 {x:LeM} (h:okL x):FO 3 [pI x.1,pI x.2.1,pI x.2.2.1,pI x.2.2.2]=some []:=Zam fMl ⟨x,h,rfl,rfl⟩
theorem t2:ToldF 92 (EOrd 2) (FO 2):=toldOrd 2
theorem t3:ToldF 90 (Zfn 3) (FO 3):=toldMl 3
def RMb (ps qs:List PV):Prop:=∃ l:List LeM,MayL l/\ps=[pRow encL l]/\qs=[]
theorem fMb:∀ ps q1 q2,RMb ps q1->RMb ps q2->q1=q2:=by
 rintro ps q1 q2 ⟨x,_,rfl,rfl⟩ ⟨x',_,h,rfl⟩;rfl
theorem cutB:flB=flB.take 1++.block (Zaf (nth flB 1)) (.loop (Zah (nth flB 1))) :: flB.drop 2:=by kernel_rfl
theorem dropB:flB.drop 2=[]:=by kernel_rfl
set_option maxHeartbeats 1000000 in
theorem toldMb (k:Nat):ToldF 89 (EMust k) (spec RMb):=by
 refine Zcy FO _ (Za1 Try.prog 89) Try.func89 (by kernel_rfl) shB (by kernel_rfl) ?_ ?_
 ·intro ps qs h
  obtain ⟨l,_,rfl,rfl⟩:=Zal h
  exact Zb3 rfl
 ·intro C ps qs hF h a w hsh
  obtain ⟨l,hl,rfl,rfl⟩:=Zal h
  obtain ⟨hlen,hok,hord⟩:=hl
  have g2:∀ a b:LeM,C.F 2 [pI a.1,pI a.2.1,pI a.2.2.1,pI a.2.2.2,pI b.1,pI b.2.1,pI b.2.2.1,pI b.2.2.2]=some [pI (ordL a b)]:=fun a b=>by rw [hF];exact FO2 a b
  have g3:∀ x:LeM,okL x->C.F 3 [pI x.1,pI x.2.1,pI x.2.2.1,pI x.2.2.2]=some []:=fun x hx=>by rw [hF];exact FO3 hx
  have t2':ToldF 92 (EOrd 2) (C.F 2):=by rw [hF];exact t2
  have t3':ToldF 90 (Zfn 3) (C.F 3):=by rw [hF];exact t3
  show wpL Try.prog flB _ a w
  rw [cutB]
  refine Zad names_ok mixed_ok (Zae tabO) preB hsh ?_ ?_
  ·simp [Base.ev,SX.ev,evs,Value.oneCell',Zac]
  ·intro qs a1 w1 hq h1
   refine ⟨fun _=>?_,fun h=>absurd rfl h⟩
   simp [evs,SX.ev,Zac] at hq
   subst hq
   refine Zas (fun n a w=>∃ i,i<=l.length/\n=l.length - i/\Zag C shBl [pRow encL l,pRow encL l,pI (l.length:Int),pI (i:Int)] a w) ?_ (n:=l.length) ⟨0,by omega,by omega,h1⟩
   rintro n a w ⟨i,hi,rfl,hin⟩
   show wpL Try.prog lpB _ a w
   rw [<- List.append_nil lpB]
   by_cases hlt:i < l.length
   ·obtain ⟨c0',c1',c2',c3'⟩:=cellL l i hlt
    have ix:=Zan encL l i 4 4 .i64 rfl hlt (by decide)
    have v3:IntKind.i64.wrap ((i:Int)+1)=(i:Int)+1:=wrapI _ (by omega) (by omega)
    have k3:=g3 l[i] (hok _ (List.getElem_mem hlt))
    by_cases h0:i=0
    ·have hp:¬ (0:Int) < (i:Int):=by omega
     refine Zad names_ok mixed_ok (Zae tabO) onB0 hin ?_ ?_
     ·simp [Zab,Zaa,Base.ev,SX.ev,evs,Value.oneCell',Zac,binPV,c0',c1',c2',c3',ix,v3,hlt,k3,t3',hp]
      all_goals omega
     ·intro qs a1 w1 hq h1
      refine ⟨fun _=>.inl ⟨rfl,l.length - (i+1),by omega,i+1,by omega,rfl,?_⟩,fun h=>absurd rfl h⟩
      simp [evs,SX.ev,binPV,v3] at hq
      subst hq
      exact h1
    ·obtain ⟨j,hj⟩:∃ j,i=j+1:=⟨i - 1,by omega⟩
     have w1:IntKind.i64.wrap ((i:Int) - 1)=(j:Int):=by rw [wrapI _ (by omega) (by omega)];omega
     obtain ⟨e0',e1',e2',e3'⟩:=cellL l j (by omega)
     have hneg:ordL (l[j]'(by omega)) l[i] < 0:=by subst hj;exact hord j hlt
     have k2:=g2 (l[j]'(by omega)) l[i]
     have ixj:=Zan encL l j 4 4 .i64 rfl (by omega) (by decide)
     generalize ordL (l[j]'(by omega)) l[i]=z at *
     have hz:¬ (0:Int)<=z:=by omega
     have hp:(0:Int) < (i:Int):=by omega
     refine Zad names_ok mixed_ok (Zae tabO) onB1 hin ?_ ?_
     ·simp [Zab,Zaa,Base.ev,SX.ev,evs,Value.oneCell',Zac,binPV,c0',c1',c2',c3',e0',e1',e2',e3',v3,w1,hlt,k2,k3,t2',t3',hz,hp,ix,ixj]
      all_goals omega
     ·intro qs a1 w1 hq h1
      refine ⟨fun _=>.inl ⟨rfl,l.length - (i+1),by omega,i+1,by omega,rfl,?_⟩,fun h=>absurd rfl h⟩
      simp [evs,SX.ev,binPV,v3] at hq
      subst hq
      exact h1
   ·have hie:i=l.length:=by omega
    subst hie
    refine Zad names_ok mixed_ok (Zae tabO) exB hin ?_ ?_
    ·simp [Base.ev,SX.ev,evs,Value.oneCell',binPV]
    ·intro qs a1 w1 hq h1
     refine ⟨nofun,fun _=>.inr (.inl ⟨by rw [show Zaf (nth flB 1)=0 by kernel_rfl];rfl,?_⟩)⟩
     rw [dropB]
     exact ⟨.inl rfl,shBR,_,[],h1,by kernel_rfl,rfl⟩

noncomputable def FB:Fns:=fun k=>match k with | 5=>spec RMb | _=>fun _=>none
theorem t5:ToldF 89 (EMust 5) (FB 5):=toldMb 5
theorem Zjr {p:LeM->Bool} {l:List LeM} {i:Nat} (h:i < l.length) (hp:p l[i]=true) (hb:∀ j (hj:j < l.length),j < i->p l[j]=false):l.find? p=some l[i]:=by
 rw [List.find?_eq_some_iff_getElem]
 exact ⟨hp,i,h,rfl,fun j hj=>by simp [hb j (by omega) hj]⟩
theorem Zht {p:LeM->Bool} {l:List LeM} (hb:∀ j (hj:j < l.length),p l[j]=false):l.find? p=none:=by
 rw [List.find?_eq_none]
 intro x hx
 obtain ⟨j,hj,rfl⟩:=List.getElem_of_mem hx
 simp [hb j hj]
end Go.Proofs.Ytcaclmdkhffegaa.lea
end
