/- Names of files: package dir, and the document's Zfc to it. -/
import Derived.Test.YtnomiffghidmbaaCmp
import Derived.Test.YtnomiffghidmbaaFroA
namespace Go.Proofs.Ytnomiffghidmbaa.dirs
open Go Go.RowKit eng SX Fact fil fileFronts
set_option linter.unusedVariables false
set_option linter.unusedSimpArgs false
set_option maxRecDepth 1000000

noncomputable def flB:=flat (Zam Try.prog 84)
noncomputable def lpB:=flat (Zaq (nth flB 3))
def shB:Shape:=⟨[(0,.leaf)],[],[none],28,84⟩
def shBl:Shape:=⟨[(14,.own 0 2 1),(15,.leaf),(16,.leaf)],[brow 2],[none,none],28,84⟩
def shBP:Shape:=⟨[],[],[],28,84⟩
noncomputable def flM:=flat (Zam Try.prog 34)
noncomputable def lpM:=flat (Zaq (nth flM 2))
def shM:Shape:=⟨[(0,.leaf)],[],[none],28,34⟩
def shMl:Shape:=⟨[(0,.leaf),(3,.leaf)],[],[none,none],28,34⟩
def shMR:Shape:=⟨[(2,.leaf)],[],[none],28,34⟩
def EName (k:Nat):FnE:={ k:=k,ins:=[none],leaks:=[false],outs:=[none],kinds:=[.truth] }
def pvB1:Value:=(.iface 9 (.string { data:={ toList:=[UInt8.ofNat 100,UInt8.ofNat 105,UInt8.ofNat 114,UInt8.ofNat 58,UInt8.ofNat 32,UInt8.ofNat 97,UInt8.ofNat 32,UInt8.ofNat 110,UInt8.ofNat 97,UInt8.ofNat 109,UInt8.ofNat 101,UInt8.ofNat 32,UInt8.ofNat 111,UInt8.ofNat 102,UInt8.ofNat 32,UInt8.ofNat 115,UInt8.ofNat 111,UInt8.ofNat 32,UInt8.ofNat 109,UInt8.ofNat 97,UInt8.ofNat 110,UInt8.ofNat 121,UInt8.ofNat 32,UInt8.ofNat 98,UInt8.ofNat 121,UInt8.ofNat 116,UInt8.ofNat 101,UInt8.ofNat 115,UInt8.ofNat 32,UInt8.ofNat 109,UInt8.ofNat 97,UInt8.ofNat 121,UInt8.ofNat 32,UInt8.ofNat 110,UInt8.ofNat 111,UInt8.ofNat 116,UInt8.ofNat 32,UInt8.ofNat 98,UInt8.ofNat 101] } }))
def pvB2:Value:=(.iface 9 (.string { data:={ toList:=[UInt8.ofNat 100,UInt8.ofNat 105,UInt8.ofNat 114,UInt8.ofNat 58,UInt8.ofNat 32,UInt8.ofNat 97,UInt8.ofNat 32,UInt8.ofNat 98,UInt8.ofNat 121,UInt8.ofNat 116,UInt8.ofNat 101,UInt8.ofNat 32,UInt8.ofNat 116,UInt8.ofNat 104,UInt8.ofNat 97,UInt8.ofNat 116,UInt8.ofNat 32,UInt8.ofNat 110,UInt8.ofNat 111,UInt8.ofNat 32,UInt8.ofNat 110,UInt8.ofNat 97,UInt8.ofNat 109,UInt8.ofNat 101,UInt8.ofNat 32,UInt8.ofNat 104,UInt8.ofNat 97,UInt8.ofNat 115] } }))
@[simp] def zDir1:SX:=.slen (.var 0)
@[simp] def zDir2:SX:=.bin .lss (.cell (.var 2) (.var 1) 1 0) (.con (.int .u8 33))
@[simp] def zDir3:SX:=.bin .lss (sidx (.var 0) (.var 1)) (.con (.int .u8 33))
@[simp] def zDir4:SX:=.con (.int .i64 1)
@[simp] def zDir5:SX:=.bin .gtr (.cell (.var 2) (.var 1) 1 0) (.con (.int .u8 126))
@[simp] def zDir6:SX:=.bin .lss (.var 1) (.var 0)
@[simp] def zDir7:SX:=.bin .gtr (sidx (.var 0) (.var 1)) (.con (.int .u8 126))
@[simp] def zDir8:SX:=.bin .lss (.var 1) zDir1
@[simp] def zDir9:SX:=.bin .add (.var 1) zDir4
@[simp] def Zt6:SX:=.bin .gtr zDir1 (.con (.int .i64 8))
@[simp] def Zt5:SX:=.bin .leq zDir1 (.con (.int .i64 8))
@[simp] def Zrm:Fact:=.ok (sidx (.var 0) (.var 1))
@[simp] def Zmm:SX:=.con (.bool false)
@[simp] def Zo7:SX:=.bin .lss zDir1 zDir4
@[simp] def Zo6:SX:=.bin .geq zDir1 zDir4
@[simp] def Zt4:SX:=.len (rop ROp.ofStr [.var 0])
theorem pre1:segTo Try.prog fil.noOrc 10000 (flB.take 3) shB [1] shBP []=some (.panic pvB1,[.ok zDir1,.ok Zo7,.is Zo7 (.bool true)],[]):=by kernel_rfl
theorem pre2:segTo Try.prog fil.noOrc 10000 (flB.take 3) shB [0,1] shBP []=some (.panic pvB1,[.ok zDir1,.ok Zo7,.is Zo7 (.bool false),.ok zDir1,.ok Zt6,.is Zt6 (.bool true)],[]):=by kernel_rfl
theorem preB:segTo Try.prog fil.noOrc 10000 (flB.take 3) shB [0,0] shBl [(0,0)]=some (.normal,[.ok zDir1,.ok Zo7,.is Zo7 (.bool false),.ok zDir1,.ok Zt6,.is Zt6 (.bool false),upto zDir1 4294967296,.ok Zt4,.ok (.con (.int .i64 0)),same Zt4 Zt4],[Zt4,.con (.int .i64 0),rop ROp.ofStr [.var 0]]):=by kernel_rfl
theorem exB:segTo Try.prog fil.noOrc 10000 lpB shBl [0] shBP []=some (.exit 0,[.ok zDir6,.is zDir6 (.bool false)],[]):=by kernel_rfl
theorem onB:segTo Try.prog fil.noOrc 10000 lpB shBl [1,0,0] shBl [(0,0)]=some (.normal,[.ok zDir6,.is zDir6 (.bool true),rng (.var 1) (.len (.var 2)),.idx (.var 2) (.var 1) 1 1,.ok zDir2,.is zDir2 (.bool false),.ok zDir5,.is zDir5 (.bool false),.ok zDir9,.ok (.var 0),.ok zDir9,same (.len (.var 2)) (.len (.var 2))],[.var 0,zDir9,.var 2]):=by kernel_rfl
theorem noB1:segTo Try.prog fil.noOrc 10000 lpB shBl [1,1] shBP []=some (.panic pvB2,[.ok zDir6,.is zDir6 (.bool true),rng (.var 1) (.len (.var 2)),.idx (.var 2) (.var 1) 1 1,.ok zDir2,.is zDir2 (.bool true)],[]):=by kernel_rfl
theorem noB2:segTo Try.prog fil.noOrc 10000 lpB shBl [1,0,1] shBP []=some (.panic pvB2,[.ok zDir6,.is zDir6 (.bool true),rng (.var 1) (.len (.var 2)),.idx (.var 2) (.var 1) 1 1,.ok zDir2,.is zDir2 (.bool false),.ok zDir5,.is zDir5 (.bool true)],[]):=by kernel_rfl
theorem preM:segTo Try.prog fil.noOrc 10000 (flM.take 2) shM [] shMl []=some (.normal,[.ok (.var 0),.ok (.con (.int .i64 0))],[.var 0,.con (.int .i64 0)]):=by kernel_rfl
theorem exM:segTo Try.prog fil.noOrc 10000 lpM shMl [0] shMl []=some (.exit 0,[.ok zDir1,.ok zDir8,.is zDir8 (.bool false),.ok (.var 0),.ok (.var 1)],[.var 0,.var 1]):=by kernel_rfl
theorem onM:segTo Try.prog fil.noOrc 10000 lpM shMl [1,0,0] shMl []=some (.normal,[.ok zDir1,.ok zDir8,.is zDir8 (.bool true),Zrm,.ok zDir3,.is zDir3 (.bool false),Zrm,.ok zDir7,.is zDir7 (.bool false),.ok zDir9,.ok (.var 0),.ok zDir9],[.var 0,zDir9]):=by kernel_rfl
theorem noM1:segTo Try.prog fil.noOrc 10000 lpM shMl [1,1] shMR []=some (.ret,[.ok zDir1,.ok zDir8,.is zDir8 (.bool true),Zrm,.ok zDir3,.is zDir3 (.bool true),.ok Zmm],[Zmm]):=by kernel_rfl
theorem noM2:segTo Try.prog fil.noOrc 10000 lpM shMl [1,0,1] shMR []=some (.ret,[.ok zDir1,.ok zDir8,.is zDir8 (.bool true),Zrm,.ok zDir3,.is zDir3 (.bool false),Zrm,.ok zDir7,.is zDir7 (.bool true),.ok Zmm],[Zmm]):=by kernel_rfl
theorem postM0:segTo Try.prog fil.noOrc 10000 (flM.drop 3) shMl [0] shMR []=some (.ret,[.ok zDir1,.ok Zo6,.is Zo6 (.bool false),.ok Zmm],[Zmm]):=by kernel_rfl
theorem postM10:segTo Try.prog fil.noOrc 10000 (flM.drop 3) shMl [1,0] shMR []=some (.ret,[.ok zDir1,.ok Zo6,.is Zo6 (.bool true),.ok zDir1,.ok Zt5,.is Zt5 (.bool false),.ok Zmm],[Zmm]):=by kernel_rfl
theorem postM11:segTo Try.prog fil.noOrc 10000 (flM.drop 3) shMl [1,1] shMR []=some (.ret,[.ok zDir1,.ok Zo6,.is Zo6 (.bool true),.ok zDir1,.ok Zt5,.is Zt5 (.bool true),.ok (.con (.bool true))],[.con (.bool true)]):=by kernel_rfl
def okC (c:UInt8):Bool:=decide (33<=c.toNat) && decide (c.toNat<=126)
def okN (s:ByteArray):Bool:=decide (1<=s.size) && decide (s.size<=8) && s.data.toList.all okC
def mustQ (s:ByteArray):List PV:=if 1<=s.size/\s.size<=8 then (if s.data.toList.all okC then [pI 0] else [pI (1+1:Nat)]) else [pI (0+1:Nat)]
def RMust (ps qs:List PV):Prop:=∃ s:ByteArray,s.size<=9223372036854775807/\ps=[pS s]/\qs=mustQ s
theorem fMust:∀ ps q1 q2,RMust ps q1->RMust ps q2->q1=q2:=by
 rintro ps q1 q2 ⟨s,_,rfl,rfl⟩ ⟨s',_,h,rfl⟩
 simp only [List.cons.injEq,PV.v.injEq,Value.string.injEq,and_true] at h
 subst h;rfl
def EMust (k:Nat):FnE:={ k:=k,ins:=[none],leaks:=[false],outs:=[],kinds:=[] }
theorem cutB:flB=flB.take 3++.block (Zat (nth flB 3)) (.loop (Zaq (nth flB 3))) :: flB.drop 4:=by kernel_rfl
theorem dropB:flB.drop 4=[]:=by kernel_rfl
theorem cellBy (l:List UInt8) (i:Nat) (h:i < l.length):Zgj (pBy l) (pI (i:Int)) 1 0=some (pU (l[i].toNat:Int)):=by
 have h0:(i:Int) < (l.length:Int):=by omega
 simp [Zgj,pBy,h0,h]
theorem idxBy (l:List UInt8) (i:Nat) (h:i < l.length):∃ n cs k z,(some (pBy l):Option PV)=some (.row n cs)/\(some (pI (i:Int)):Option PV)=some (.v (.int k z))/\0<=z/\z < (n:Int)/\z.toNat * 1+1<=cs.length:=by
 refine ⟨_,_,_,_,rfl,rfl,by omega,by omega,?_⟩
 simp
 omega
set_option maxHeartbeats 1000000 in
theorem toldMust (k:Nat):ToldX 84 (EMust k) [pvB1,pvB2] (spec RMust):=by
 refine told_byX (fun _ _=>none) _ (Zam Try.prog 84) Try.func84 (by kernel_rfl) shB (by kernel_rfl) ?_ ?_
 ·intro ps qs h
  obtain ⟨s,_,rfl,rfl⟩:=Zag h
  exact Za7 rfl
 ·intro C ps qs hF h a w hsh
  obtain ⟨s,hs,rfl,rfl⟩:=Zag h
  show wpL Try.prog flB _ a w
  rw [cutB]
  by_cases h1:s.size < 1
  ·have hq0:mustQ s=[pI (0+1:Nat)]:=by rw [mustQ,if_neg (by omega)]
   refine Zad names_ok mixed_ok fil.noOrc_ok pre1 hsh ?_ ?_
   ·simp [Base.ev,SX.ev,evs,Value.oneCell',Zal,binPV]
    all_goals omega
   ·intro qs a1 w1 hq hx
    exact ⟨nofun,fun _=>.inr ⟨0,_,_,_,hq0,rfl,rfl,hx⟩⟩
  by_cases h2:8 < s.size
  ·have hq0:mustQ s=[pI (0+1:Nat)]:=by rw [mustQ,if_neg (by omega)]
   refine Zad names_ok mixed_ok fil.noOrc_ok pre2 hsh ?_ ?_
   ·simp [Base.ev,SX.ev,evs,Value.oneCell',Zal,binPV]
    all_goals omega
   ·intro qs a1 w1 hq hx
    exact ⟨nofun,fun _=>.inr ⟨0,_,_,_,hq0,rfl,rfl,hx⟩⟩
  have hll:s.data.toList.length=s.size:=by simp
  have hmq:mustQ s=if s.data.toList.all okC then [pI 0] else [pI (1+1:Nat)]:=by rw [mustQ,if_pos (by omega)]
  refine Zad names_ok mixed_ok fil.noOrc_ok preB hsh ?_ ?_
  ·simp [Base.ev,SX.ev,evs,Value.oneCell',Zal,binPV,Zpt,r_len]
   all_goals omega
  ·intro qs a1 w1 hq hx
   refine ⟨fun _=>?_,fun h=>absurd rfl h⟩
   simp [evs,SX.ev,Zpt,r_len] at hq
   subst hq
   generalize s.data.toList=l at *
   rw [<- hll] at hx
   refine Zhe (fun n a w=>∃ i,i<=l.length/\n=l.length - i/\(∀ j (hj:j < l.length),j < i->okC l[j]=true)/\Zah C shBl [pI (l.length:Int),pI (i:Int),pBy l] a w) ?_ (n:=l.length) ⟨0,by omega,by omega,fun j _ hj=>absurd hj (by omega),hx⟩
   rintro n a w ⟨i,hi,rfl,hb,hin⟩
   show wpL Try.prog lpB _ a w
   rw [<- List.append_nil lpB]
   by_cases hlt:i < l.length
   ·have c0':=cellBy l i hlt
    have ix:(Fact.idx (var 2) (var 1) 1 1).holds (C.with [pI (l.length:Int),pI (i:Int),pBy l]):=idxBy l i hlt
    have v3:IntKind.i64.wrap ((i:Int)+1)=(i:Int)+1:=wrapI _ (by omega) (by omega)
    have bad:okC l[i]=false->mustQ s=[pI (1+1:Nat)]:=fun hc=>by
     rw [hmq,if_neg]
     intro h
     rw [List.all_eq_true.1 h _ (List.getElem_mem hlt)] at hc
     cases hc
    by_cases d1:l[i].toNat < 33
    ·have d1':(l[i].toNat:Int) < 33:=by omega
     refine Zad names_ok mixed_ok fil.noOrc_ok noB1 hin ?_ ?_
     ·simp [-Zac,Base.ev,SX.ev,evs,Value.oneCell',r_len,binPV,c0',ix,v3,hlt,d1']
     ·intro qs a1 w1 hq h1
      exact ⟨nofun,fun _=>.inr (.inr (.inr ⟨_,rfl,.inr ⟨1,_,_,_,bad (by simp only [okC,Bool.and_eq_false_iff,decide_eq_false_iff_not];omega),rfl,rfl,h1⟩⟩))⟩
    by_cases d2:126 < l[i].toNat
    ·have d1':¬ (l[i].toNat:Int) < 33:=by omega
     have d2':(126:Int) < (l[i].toNat:Int):=by omega
     refine Zad names_ok mixed_ok fil.noOrc_ok noB2 hin ?_ ?_
     ·simp [-Zac,Base.ev,SX.ev,evs,Value.oneCell',r_len,binPV,c0',ix,v3,hlt,d1',d2']
     ·intro qs a1 w1 hq h1
      exact ⟨nofun,fun _=>.inr (.inr (.inr ⟨_,rfl,.inr ⟨1,_,_,_,bad (by simp only [okC,Bool.and_eq_false_iff,decide_eq_false_iff_not];omega),rfl,rfl,h1⟩⟩))⟩
    ·have d1':¬ (l[i].toNat:Int) < 33:=by omega
     have d2':¬ (126:Int) < (l[i].toNat:Int):=by omega
     refine Zad names_ok mixed_ok fil.noOrc_ok onB hin ?_ ?_
     ·simp [-Zac,Base.ev,SX.ev,evs,Value.oneCell',r_len,binPV,c0',ix,v3,hlt,d1',d2']
     ·intro qs a1 w1 hq h1
      refine ⟨fun _=>.inl ⟨rfl,l.length - (i+1),by omega,i+1,by omega,rfl,fun j hj hji=>?_,?_⟩,fun h=>absurd rfl h⟩
      ·by_cases hje:j=i
       ·subst hje;simp only [okC,Bool.and_eq_true,decide_eq_true_eq];omega
       ·exact hb j hj (by omega)
      ·simp [evs,SX.ev,binPV,v3] at hq
       subst hq
       exact h1
   ·have hie:i=l.length:=by omega
    subst hie
    have hq0:mustQ s=[pI 0]:=by
     rw [hmq,if_pos]
     rw [List.all_eq_true]
     intro c hc
     obtain ⟨j,hj,rfl⟩:=List.getElem_of_mem hc
     exact hb j hj hj
    refine Zad names_ok mixed_ok fil.noOrc_ok exB hin ?_ ?_
    ·simp [Base.ev,SX.ev,evs,Value.oneCell',binPV]
    ·intro qs a1 w1 hq h1
     refine ⟨nofun,fun _=>.inr (.inl ⟨by rw [show Zat (nth flB 3)=0 by kernel_rfl];rfl,?_⟩)⟩
     rw [dropB]
     exact .inl ⟨_,hq0,.inl rfl,shBP,_,[],h1,by kernel_rfl,rfl⟩

def RName (ps qs:List PV):Prop:=∃ s:ByteArray,s.size<=9223372036854775807/\ps=[pS s]/\qs=[pB (okN s)]
theorem fName:∀ ps q1 q2,RName ps q1->RName ps q2->q1=q2:=by
 rintro ps q1 q2 ⟨s,_,rfl,rfl⟩ ⟨s',_,h,rfl⟩
 simp only [List.cons.injEq,PV.v.injEq,Value.string.injEq,and_true] at h
 subst h;rfl
theorem cutM:flM=flM.take 2++.block (Zat (nth flM 2)) (.loop (Zaq (nth flM 2))) :: flM.drop 3:=by kernel_rfl
theorem sidx_at (s:ByteArray) (k:Nat) (h:k < s.data.toList.length):Zpb (pS s) (pI (k:Int))=some (pU (s.data.toList[k].toNat:Int)):=by
 have h0:(0:Int)<=(k:Int):=by omega
 have hk:k < s.size:=by simpa using h
 simp only [Zpb,h0,if_true,Int.toNat_natCast]
 rw [getElem?_pos s k hk]
 rfl
set_option maxHeartbeats 1000000 in
theorem toldName (k:Nat):ToldF 34 (EName k) (spec RName):=by
 refine Zfx (fun _ _=>none) _ (Zam Try.prog 34) Try.func34 (by kernel_rfl) shM (by kernel_rfl) ?_ ?_
 ·intro ps qs h
  obtain ⟨s,_,rfl,rfl⟩:=Zag h
  exact Za7 rfl
 ·intro C ps qs hF h a w hsh
  obtain ⟨s,hs,rfl,rfl⟩:=Zag h
  show wpL Try.prog flM _ a w
  rw [cutM]
  have hll:s.data.toList.length=s.size:=by simp
  refine Zad names_ok mixed_ok fil.noOrc_ok preM hsh ?_ ?_
  ·simp [Base.ev,SX.ev,evs,Value.oneCell',Zal]
  ·intro qs a1 w1 hq hx
   refine ⟨fun _=>?_,fun h=>absurd rfl h⟩
   simp [evs,SX.ev] at hq
   subst hq
   refine Zbj (fun n a w=>∃ i,i<=s.data.toList.length/\n=s.data.toList.length - i/\(∀ j (hj:j < s.data.toList.length),j < i->okC s.data.toList[j]=true)/\Zah C shMl [pS s,pI (i:Int)] a w) ?_ (n:=s.data.toList.length) ⟨0,by omega,by omega,fun j _ hj=>absurd hj (by omega),hx⟩
   rintro n a w ⟨i,hi,rfl,hb,hin⟩
   show wpL Try.prog lpM _ a w
   rw [<- List.append_nil lpM]
   by_cases hlt:i < s.data.toList.length
   ·have c0':=sidx_at s i hlt
    have hlt':i < s.size:=by omega
    have v3:IntKind.i64.wrap ((i:Int)+1)=(i:Int)+1:=wrapI _ (by omega) (by omega)
    have bad:okC s.data.toList[i]=false->okN s=false:=fun hc=>by
     simp only [okN,Bool.and_eq_false_iff]
     right
     rw [List.all_eq_false]
     exact ⟨_,List.getElem_mem hlt,by simpa using hc⟩
    have okq:okC s.data.toList[i]=(decide (33<=s.data.toList[i].toNat) && decide (s.data.toList[i].toNat<=126)):=rfl
    have hbi:okC s.data.toList[i]=true->∀ j (hj:j < s.data.toList.length),j < i+1->okC s.data.toList[j]=true:=fun hc j hj hji=>by
     by_cases hje:j=i
     ·subst hje;exact hc
     ·exact hb j hj (by omega)
    generalize s.data.toList[i].toNat=c at c0' okq
    rw [okq] at bad hbi
    by_cases d1:c < 33
    ·have d1':(c:Int) < 33:=by omega
     refine Zad names_ok mixed_ok fil.noOrc_ok noM1 hin ?_ ?_
     ·simp [-Zac,Base.ev,SX.ev,evs,Value.oneCell',Zal,binPV,c0',v3,hlt',d1']
     ·intro qs a1 w1 hq h1
      refine ⟨nofun,fun _=>.inr (.inr ⟨rfl,.inr rfl,shMR,_,[SX.var 0],h1,by kernel_rfl,?_⟩)⟩
      simp [evs,SX.ev] at hq ⊢
      subst hq
      simp [bad (by simp;omega)]
    by_cases d2:126 < c
    ·have d1':¬ (c:Int) < 33:=by omega
     have d2':(126:Int) < (c:Int):=by omega
     refine Zad names_ok mixed_ok fil.noOrc_ok noM2 hin ?_ ?_
     ·simp [-Zac,Base.ev,SX.ev,evs,Value.oneCell',Zal,binPV,c0',v3,hlt',d1',d2']
     ·intro qs a1 w1 hq h1
      refine ⟨nofun,fun _=>.inr (.inr ⟨rfl,.inr rfl,shMR,_,[SX.var 0],h1,by kernel_rfl,?_⟩)⟩
      simp [evs,SX.ev] at hq ⊢
      subst hq
      simp [bad (by simp;omega)]
    ·have d1':¬ (c:Int) < 33:=by omega
     have d2':¬ (126:Int) < (c:Int):=by omega
     refine Zad names_ok mixed_ok fil.noOrc_ok onM hin ?_ ?_
     ·simp [-Zac,Base.ev,SX.ev,evs,Value.oneCell',Zal,binPV,c0',v3,hlt',d1',d2']
     ·intro qs a1 w1 hq h1
      refine ⟨fun _=>.inl ⟨rfl,s.data.toList.length - (i+1),by omega,i+1,by omega,rfl,hbi (by simp;omega),?_⟩,fun h=>absurd rfl h⟩
      simp [evs,SX.ev,binPV,v3] at hq
      subst hq
      exact h1
   ·have hie:i=s.data.toList.length:=by omega
    have hall:s.data.toList.all okC=true:=by
     rw [List.all_eq_true]
     intro c hc
     obtain ⟨j,hj,rfl⟩:=List.getElem_of_mem hc
     exact hb j hj (by omega)
    refine Zad names_ok mixed_ok fil.noOrc_ok exM hin ?_ ?_
    ·simp [Base.ev,SX.ev,evs,Value.oneCell',Zal,binPV]
     all_goals omega
    ·intro qs a1 w1 hq h1
     refine ⟨nofun,fun _=>.inr (.inl ⟨by rw [show Zat (nth flM 2)=0 by kernel_rfl];rfl,?_⟩)⟩
     simp [evs,SX.ev] at hq
     subst hq
     rw [<- List.append_nil (flM.drop 3)]
     have fin:∀ (b:Bool),okN s=b->∀ qs a1 w1,qs=[pB b]->Zah C shMR qs a1 w1->(AX.ret=.normal->wpL Try.prog [] (fun e a' w'=>(e=.normal \/ e=.ret)/\∃ sh' ps' es,Zah C sh' ps' a' w'/\resTo Try.prog Try.f34 sh' (EName k)=some es/\evs (fun i=>ps'[i]?) (fun _ _=>none) es=some [pB (okN s)]) a1 w1)/\(AX.ret ≠ .normal->(AX.ret.to=.normal \/ AX.ret.to=.ret)/\∃ sh' ps' es,Zah C sh' ps' a1 w1/\resTo Try.prog Try.f34 sh' (EName k)=some es/\evs (fun i=>ps'[i]?) (fun _ _=>none) es=some [pB (okN s)]):=by
      rintro b hb qs a1 w1 rfl h1
      exact ⟨nofun,fun _=>⟨.inr rfl,shMR,_,[SX.var 0],h1,by kernel_rfl,by rw [hb];rfl⟩⟩
     by_cases e1:1<=s.size
     ·by_cases e2:s.size<=8
      ·refine Zad names_ok mixed_ok fil.noOrc_ok postM11 h1 ?_ (fun qs a1 w1 hq h1=>fin true (by simp [okN,e1,e2,hall]) qs a1 w1 (by simp [evs,SX.ev] at hq;exact hq.symm) h1)
       simp [Base.ev,SX.ev,evs,Value.oneCell',Zal,binPV]
       all_goals omega
      ·refine Zad names_ok mixed_ok fil.noOrc_ok postM10 h1 ?_ (fun qs a1 w1 hq h1=>fin false (by simp [okN,e2]) qs a1 w1 (by simp [evs,SX.ev] at hq;exact hq.symm) h1)
       simp [Base.ev,SX.ev,evs,Value.oneCell',Zal,binPV]
       all_goals omega
     ·refine Zad names_ok mixed_ok fil.noOrc_ok postM0 h1 ?_ (fun qs a1 w1 hq h1=>fin false (by simp [okN,e1]) qs a1 w1 (by simp [evs,SX.ev] at hq;exact hq.symm) h1)
      simp [Base.ev,SX.ev,evs,Value.oneCell',Zal,binPV]
      all_goals omega
end Go.Proofs.Ytnomiffghidmbaa.dirs
