/- Which sectors are unlike (package image): told. -/
import Derived.Test.YtefkakjegdjojaaGreatIse
namespace Go.Proofs.YtefkakjegdjojaaGreat.idf
open Go Go.RowKit eng SX Fact fil ima symD sta
open fileFronts (Zae)
set_option linter.unusedVariables false
set_option linter.unusedSimpArgs false
set_option maxRecDepth 1000000

def isApp:Op->Bool | .call { callee:=.builtin .append,.. }=>true | _=>false
def hApp (_:FuncId) (o:Oper):Option Hint:=cond (isApp o.op) (some .own) none
def EUn (k:Nat):FnE:={ k:=k,ins:=[none,none],leaks:=[false,false],outs:=[none],kinds:=[.row] }
def pbox (k:Nat):BoxT:=⟨93,2,true,[],some k,false⟩
noncomputable def flU:=flat (Zar Tryz.prog 71)
noncomputable def lpU:=flat (Zak (nth flU 5))
def shU:Shape:=⟨[(0,.leaf),(1,.leaf)],[],[some false,some false],35,71⟩
def shUn:Shape:=⟨[(0,.leaf),(5,.nil),(14,.leaf),(15,.leaf),(16,.leaf)],[],[some false,some false,none,none],35,71⟩
def shUo:Shape:=⟨[(0,.leaf),(5,.own 0 4 2),(14,.leaf),(15,.leaf),(16,.leaf)],[pbox 4],[some false,some false,none,none],35,71⟩
def shUR:Shape:=⟨[(4,.own 0 0 2)],[pbox 0],[],35,71⟩
def shUN:Shape:=⟨[(4,.nil)],[],[],35,71⟩
def shUE:Shape:=⟨[],[],[],35,71⟩
def pvUn:Value:=(.iface 9 (.string { data:={ toList:=[UInt8.ofNat 105,UInt8.ofNat 109,UInt8.ofNat 97,UInt8.ofNat 103,UInt8.ofNat 101,UInt8.ofNat 58,UInt8.ofNat 32,UInt8.ofNat 110,UInt8.ofNat 111,UInt8.ofNat 116,UInt8.ofNat 32,UInt8.ofNat 97,UInt8.ofNat 115,UInt8.ofNat 32,UInt8.ofNat 109,UInt8.ofNat 97,UInt8.ofNat 110,UInt8.ofNat 121] } }))
@[simp] def Zgg:SX:=.bin .neq (.cell (.var 1) (.var 3) 1 0) (.cell (.var 0) (.var 3) 1 0)
@[simp] def Zcz:SX:=.bin .add (.var 3) (.con (.int .i64 1))
@[simp] def Zjc:SX:=.lit 1 [.var 3,.cell (.var 1) (.var 3) 1 0]
@[simp] def Zcy:SX:=.bin .lss (.var 3) (.var 2)
@[simp] def Zgf:Fact:=.idx (.var 1) (.var 3) 1 1
@[simp] def Zge:Fact:=.idx (.var 0) (.var 3) 1 1
@[simp] def Zpo:SX:=.bin .neq (.len (.var 0)) (.len (.var 1))
@[simp] def Zpn:Fact:=same (.len (.var 4)) (.len (.var 4))
@[simp] def Zpm:Fact:=.ok (.cell (.var 1) (.var 3) 1 0)
@[simp] def Zm7:Fact:=.ok (.cell (.var 0) (.var 3) 1 0)
@[simp] def Zm6:SX:=rop ROp.cat [.var 4,Zjc]
theorem bad:segTo Tryz.prog fil.noOrc 10000 flU shU [1] shUE []=some (.panic pvUn,[.ok (.len (.var 0)),.ok (.len (.var 1)),.ok Zpo,.is Zpo (.bool true)],[]):=by kernel_rfl
theorem pre:segTo Tryz.prog fil.noOrc 10000 (flU.take 5) shU [0] shUn []=some (.normal,[.ok (.len (.var 0)),.ok (.len (.var 1)),.ok Zpo,.is Zpo (.bool false),.ok (.len (.var 1)),.ok (.len (.var 1)),.ok (.con (.int .i64 0))],[.var 0,.var 1,.len (.var 1),.con (.int .i64 0)]):=by kernel_rfl
theorem xn:segTo Tryz.prog fil.noOrc 10000 lpU shUn [0] shUn []=some (.exit 0,[.ok Zcy,.is Zcy (.bool false),.ok (.var 2),.ok (.var 3)],[.var 0,.var 1,.var 2,.var 3]):=by kernel_rfl
theorem xo:segTo Tryz.prog fil.noOrc 10000 lpU shUo [0] shUo [(0,0)]=some (.exit 0,[.ok Zcy,.is Zcy (.bool false),.ok (.var 2),.ok (.var 3),Zpn],[.var 0,.var 1,.var 2,.var 3,.var 4]):=by kernel_rfl
theorem sn:segTo Tryz.prog fil.noOrc 10000 lpU shUn [1,0] shUn []=some (.normal,[.ok Zcy,.is Zcy (.bool true),Zgf,Zgf,Zpm,Zge,Zge,Zm7,.ok Zgg,.is Zgg (.bool false),.ok Zcz,.ok (.var 2),.ok Zcz],[.var 0,.var 1,.var 2,Zcz]):=by kernel_rfl
theorem so:segTo Tryz.prog fil.noOrc 10000 lpU shUo [1,0] shUo [(0,0)]=some (.normal,[.ok Zcy,.is Zcy (.bool true),Zgf,Zgf,Zpm,Zge,Zge,Zm7,.ok Zgg,.is Zgg (.bool false),.ok Zcz,.ok (.var 2),.ok Zcz,Zpn],[.var 0,.var 1,.var 2,Zcz,.var 4]):=by kernel_rfl
theorem dn:segTo Tryz.prog fil.noOrc 10000 lpU shUn [1,1] shUo [(3,0)] hApp=some (.normal,[.ok Zcy,.is Zcy (.bool true),Zgf,Zgf,Zpm,Zge,Zge,Zm7,.ok Zgg,.is Zgg (.bool true),rng (.con (.int .i64 0)) (.len Zjc),upto (.len Zjc) 4294967296,.ok Zcz,.ok (.var 2),.ok Zcz,same (.len Zjc) (.len Zjc)],[.var 0,.var 1,.var 2,Zcz,Zjc]):=by kernel_rfl
theorem do1:segTo Tryz.prog fil.noOrc 10000 lpU shUo [1,1] shUo [(0,1)] hApp=some (.normal,[.ok Zcy,.is Zcy (.bool true),Zgf,Zgf,Zpm,Zge,Zge,Zm7,.ok Zgg,.is Zgg (.bool true),Zpn,upto (.len Zm6) 4294967296,.ok Zcz,.ok (.var 2),.ok Zcz,same (.len Zm6) (.len Zm6)],[.var 0,.var 1,.var 2,Zcz,Zm6]):=by kernel_rfl
theorem fn:segTo Tryz.prog fil.noOrc 10000 (flU.drop 6) shUn [] shUN []=some (.ret,[],[]):=by kernel_rfl
theorem fo:segTo Tryz.prog fil.noOrc 10000 (flU.drop 6) shUo [] shUR [(0,0)]=some (.ret,[Zpn],[.var 4]):=by kernel_rfl

def encQ:Enc (Int × ByteArray):={ sz:=2,enc:=fun p=>[.int .i64 p.1,.string p.2],len:=fun _=>rfl,one:=fun _ u hu=>by simp at hu;rcases hu with rfl | rfl <;> rfl,pos:=by decide }
theorem encS_inj:∀ xs ys:List ByteArray,encS.all xs=encS.all ys->xs=ys
 | [],[],_=>rfl
 | [],_ :: _,h=>by simp [Enc.all,encS] at h
 | _ :: _,[],h=>by simp [Enc.all,encS] at h
 | x :: xs,y :: ys,h=>by
  rw [Enc.all_cons,Enc.all_cons] at h
  obtain ⟨h1,h2⟩:=List.append_inj h (by rw [encS.len,encS.len])
  simp only [encS,List.cons.injEq,Value.string.injEq,and_true] at h1
  rw [h1,encS_inj xs ys h2]
theorem cellS (l:List ByteArray) (i:Nat) (h:i < l.length):Zb8 (pRow encS l) (pI (i:Int)) 1 0=some (pS l[i]):=by
 rw [Zbb encS l i .i64 1 0 rfl h,Zce encS l i 0 _ (List.getElem?_eq_getElem h) (by decide)];rfl
theorem cellQ (l:List (Int × ByteArray)) (i:Nat) (h:i < l.length):Zb8 (pRow encQ l) (pI (i:Int)) 2 0=some (pI l[i].1)/\Zb8 (pRow encQ l) (pI (i:Int)) 2 1=some (pS l[i].2):=by
 refine ⟨?_,?_⟩
 ·rw [Zbb encQ l i .i64 2 0 rfl h,Zce encQ l i 0 _ (List.getElem?_eq_getElem h) (by decide)];rfl
 ·rw [Zbb encQ l i .i64 2 1 rfl h,Zce encQ l i 1 _ (List.getElem?_eq_getElem h) (by decide)];rfl
theorem r_cat1Q (i:Int) (s:ByteArray):ropPV .cat [.row 0 [],.row 1 [pI i,pS s]]=some (pRow encQ [(i,s)]):=by simp [ropPV,pRow,Enc.all,encQ]
theorem Zxq (i:Int) (s:ByteArray):(PV.row 1 [pI i,pS s])=pRow encQ [(i,s)]:=by simp [pRow,Enc.all,encQ]
theorem r_catQ (l:List (Int × ByteArray)) (i:Int) (s:ByteArray):ropPV .cat [pRow encQ l,.row 1 [pI i,pS s]]=some (pRow encQ (l++[(i,s)])):=by rw [Zxq];exact r_catE encQ l [(i,s)]
@[simp] theorem kUn (k:Nat):(EUn k).k=k:=rfl
theorem ge_step (a b:List ByteArray) (i:Nat) (h:i < b.length) (h2:i < a.length) (he:a[i]=b[i]):diffI a (b.take (i+1))=diffI a (b.take i):=by
 rw [Zue a b i h,if_pos (by rw [List.getElem?_eq_getElem h2,he]),List.append_nil]
theorem ne_step (a b:List ByteArray) (i:Nat) (h:i < b.length) (h2:i < a.length) (he:¬ b[i]=a[i]):diffI a (b.take (i+1))=diffI a (b.take i)++[((i:Int),b[i])]:=by
 rw [Zue a b i h,if_neg (by rw [List.getElem?_eq_getElem h2];intro e;exact he (Option.some.inj e).symm)]
def RUn (ps qs:List PV):Prop:=∃ a b:List ByteArray,a.length<=1000000/\b.length<=1000000/\ps=[pRow encS a,pRow encS b]/\qs=if a.length=b.length then [pI 0,pRow encQ (diffI a b)] else [pI 1]
theorem fUn:∀ ps q1 q2,RUn ps q1->RUn ps q2->q1=q2:=by
 rintro ps q1 q2 ⟨a,b,_,_,rfl,rfl⟩ ⟨a',b',_,_,h,rfl⟩
 simp only [List.cons.injEq,and_true] at h
 rw [fil.pRow_inj encS_inj h.1,fil.pRow_inj encS_inj h.2]
theorem cutU:flU=flU.take 5++.block (Zao (nth flU 5)) (.loop (Zak (nth flU 5))) :: flU.drop 6:=by kernel_rfl
set_option maxHeartbeats 2000000 in
theorem toldUn (k:Nat):ToldX 71 (EUn k) [pvUn] (spec RUn):=by
 refine Ziw (fun _ _=>none) _ (Zar Tryz.prog 71) Tryz.func71 (by kernel_rfl) shU (by kernel_rfl) ?_ ?_
 ·intro ps qs h
  obtain ⟨a,b,_,_,rfl,rfl⟩:=Zaj h
  exact Zbd rfl
 ·intro C ps qs hF h x w hsh
  obtain ⟨a,b,ha,hb,rfl,hqs⟩:=Zaj h
  show wpL Tryz.prog flU _ x w
  by_cases hl:a.length=b.length
  rotate_left
  ·rw [if_neg hl] at hqs
   subst hqs
   have hli:¬ ((a.length:Int)=(b.length:Int)):=by omega
   rw [<- List.append_nil flU]
   refine Zag Zad Zac fil.noOrc_ok bad hsh ?_ (fun qs a1 wd hq hx=>⟨nofun,fun _=>.inr ⟨0,_,_,_,rfl,rfl,rfl,hx⟩⟩)
   simp [Base.ev,SX.ev,evs,Value.oneCell',binPV,Zaf,hli]
  rw [if_pos hl] at hqs
  subst hqs
  rw [cutU]
  refine Zag Zad Zac fil.noOrc_ok pre hsh ?_ (fun qs a1 wd hq hx=>⟨fun _=>?_,fun h=>absurd rfl h⟩)
  ·simp [Base.ev,SX.ev,evs,Value.oneCell',binPV,Zaf,hl]
  simp [evs,SX.ev,Zaf] at hq
  subst hq
  refine Zfc (fun m x w=>∃ i:Nat,m=b.length - i/\i<=b.length/\((diffI a (b.take i)=[]/\Zah C shUn [pRow encS a,pRow encS b,pI (b.length:Int),pI (i:Int)] x w) \/ Zah C shUo [pRow encS a,pRow encS b,pI (b.length:Int),pI (i:Int),pRow encQ (diffI a (b.take i))] x w)) ?_ (n:=b.length) ⟨0,by omega,by omega,.inl ⟨rfl,hx⟩⟩
  rintro m x w ⟨i,rfl,hi,hx⟩
  rw [<- List.append_nil (flat _)]
  have hdl:(diffI a (b.take i)).length<=1000000:=by
   have:=Ztr a (b.take i) 0
   rw [List.length_take] at this
   unfold diffI
   omega
  have rl:=Zaf encQ (diffI a (b.take i))
  by_cases hlt:i < b.length
  ·have v4:IntKind.i64.wrap ((i:Int)+1)=(i:Int)+1:=wrapI _ (by omega) (by omega)
   have ca:=cellS a i (by omega)
   have cb:=cellS b i hlt
   have ia:=Zaq encS a i 1 1 .i64 rfl (by omega) (by decide)
   have ib:=Zaq encS b i 1 1 .i64 rfl hlt (by decide)
   by_cases he:b[i]=a[i]
   ·have hge:=ge_step a b i hlt (by omega) he.symm
    rcases hx with ⟨h0,hx⟩ | hx
    ·refine Zag Zad Zac fil.noOrc_ok sn hx ?_ (fun qs a1 wd hq hx=>⟨fun _=>.inl ⟨rfl,b.length - (i+1),by omega,i+1,rfl,by omega,.inl ⟨by rw [hge,h0],?_⟩⟩,fun h=>absurd rfl h⟩)
     ·simp [-Zae,Zab,Zaa,Base.ev,SX.ev,evs,Value.oneCell',binPV,v4,ca,cb,ia,ib,hlt,he]
     ·simp [evs,SX.ev,binPV,v4] at hq
      subst hq
      exact hx
    ·refine Zag Zad Zac fil.noOrc_ok so hx ?_ (fun qs a1 wd hq hx=>⟨fun _=>.inl ⟨rfl,b.length - (i+1),by omega,i+1,rfl,by omega,.inr ?_⟩,fun h=>absurd rfl h⟩)
     ·simp [-Zae,Zab,Zaa,Base.ev,SX.ev,evs,Value.oneCell',binPV,v4,ca,cb,ia,ib,hlt,he,rl]
     ·simp [evs,SX.ev,binPV,v4] at hq
      subst hq
      rw [hge]
      exact hx
   ·have hne:=ne_step a b i hlt (by omega) he
    have he2:¬ b[i].toList=a[i].toList:=fun e=>he (Zrt e)
    rcases hx with ⟨h0,hx⟩ | hx
    ·have c1:=r_cat1Q (i:Int) b[i]
     have l1:=Zaf encQ [((i:Int),b[i])]
     refine Zag Zad Zac fil.noOrc_ok dn hx ?_ (fun qs a1 wd hq hx=>⟨fun _=>.inl ⟨rfl,b.length - (i+1),by omega,i+1,rfl,by omega,.inr ?_⟩,fun h=>absurd rfl h⟩)
     ·simp [-Zae,Zab,Zaa,Base.ev,SX.ev,evs,Value.oneCell',binPV,v4,ca,cb,ia,ib,hlt,he2,c1,l1,Zfa]
     ·simp [evs,SX.ev,binPV,v4,cb,Zxq] at hq
      subst hq
      rw [hne,h0]
      exact hx
    ·have c1:=r_catQ (diffI a (b.take i)) (i:Int) b[i]
     have l1:=Zaf encQ (diffI a (b.take i)++[((i:Int),b[i])])
     obtain ⟨z1,hz1⟩:∃ z1:Nat,z1=(diffI a (b.take i)++[((i:Int),b[i])]).length:=⟨_,rfl⟩
     rw [<- hz1] at l1
     rw [List.length_append,List.length_singleton] at hz1
     refine Zag Zad Zac fil.noOrc_ok do1 hx ?_ (fun qs a1 wd hq hx=>⟨fun _=>.inl ⟨rfl,b.length - (i+1),by omega,i+1,rfl,by omega,.inr ?_⟩,fun h=>absurd rfl h⟩)
     ·simp [-Zae,Zab,Zaa,Base.ev,SX.ev,evs,Value.oneCell',binPV,v4,ca,cb,ia,ib,hlt,he2,c1,l1,rl,Zfa]
      all_goals omega
     ·simp [evs,SX.ev,binPV,v4,cb,c1] at hq
      subst hq
      rw [hne]
      exact hx
  ·obtain rfl:i=b.length:=by omega
   rw [List.take_length] at hx rl
   rcases hx with ⟨h0,hx⟩ | hx
   ·refine Zag Zad Zac fil.noOrc_ok xn hx ?_ (fun qs a1 wd hq hx=>⟨nofun,fun _=>.inr (.inl ⟨rfl,?_⟩)⟩)
    ·simp [-Zae,Zab,Zaa,Base.ev,SX.ev,evs,Value.oneCell',binPV]
    simp [evs,SX.ev] at hq
    subst hq
    rw [<- List.append_nil (flU.drop 6)]
    refine Zag Zad Zac fil.noOrc_ok fn hx ?_ (fun qs a1 wd hq hx=>⟨nofun,fun _=>.inl ⟨_,rfl,.inr rfl,shUN,_,[SX.lit 0 []],hx,by kernel_rfl,?_⟩⟩)
    ·simp
    ·rw [h0]
     rfl
   ·refine Zag Zad Zac fil.noOrc_ok xo hx ?_ (fun qs a1 wd hq hx=>⟨nofun,fun _=>.inr (.inl ⟨rfl,?_⟩)⟩)
    ·simp [-Zae,Zab,Zaa,Base.ev,SX.ev,evs,Value.oneCell',binPV,rl]
    simp [evs,SX.ev] at hq
    subst hq
    rw [<- List.append_nil (flU.drop 6)]
    refine Zag Zad Zac fil.noOrc_ok fo hx ?_ (fun qs a1 wd hq hx=>⟨nofun,fun _=>.inl ⟨_,rfl,.inr rfl,shUR,_,[SX.var 0],hx,by kernel_rfl,?_⟩⟩)
    ·simp [-Zae,Zab,Zaa,Base.ev,SX.ev,evs,Value.oneCell',rl]
    ·simp [evs,SX.ev] at hq
     subst hq
     rfl

end Go.Proofs.YtefkakjegdjojaaGreat.idf
