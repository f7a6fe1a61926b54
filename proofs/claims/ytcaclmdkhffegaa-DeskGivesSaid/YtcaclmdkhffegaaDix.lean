/- Pairs: slices.Index and slices.Contains, told; who is called, each pair once. -/
import Derived.Test.YtcaclmdkhffegaaLea
namespace Go.Proofs.Ytcaclmdkhffegaa.dix
open Go Go.RowKit eng SX Fact fil lem lea
set_option linter.unusedVariables false
set_option linter.unusedSimpArgs false
set_option maxRecDepth 1000000
abbrev Pr:=Int × Int
def encP:Enc Pr:={ sz:=2,enc:=fun p=>[.int .i64 p.1,.int .i64 p.2],len:=fun _=>rfl,one:=fun _ u hu=>by simp at hu;rcases hu with rfl | rfl <;> rfl,pos:=by decide }
def EIp (k:Nat):FnE:={ k:=k,ins:=[none,some 2],leaks:=[false,false,false],outs:=[none],kinds:=[.num] }
def ECn (k:Nat):FnE:={ k:=k,ins:=[none,some 2],leaks:=[false,false,false],outs:=[none],kinds:=[.truth] }
def tabI (f:FuncId):Option FnE:=cond (Nat.beq f 68) (some (EIp 1)) none
def hE (_:FuncId) (o:Oper):Option Hint:=match o.op with | .binOp .eql ..=>some .parts | _=>none
noncomputable def flI:=flat (Za1 Try.prog 68)
noncomputable def lpI:=flat (Zah (nth flI 2))
def pbox:BoxT:=⟨41,0,false,[.leaf,.leaf],none,false⟩
def shI:Shape:=⟨[(0,.leaf),(1,.agg 2)],[],[some false,none,none],19,68⟩
def shIl:Shape:=⟨[(0,.leaf),(3,.ptr 0 0 0 0),(7,.leaf),(8,.leaf)],[pbox],[some false,none,none,none,none],19,68⟩
def shIR:Shape:=⟨[(4,.leaf)],[],[none],19,68⟩
def shIX:Shape:=⟨[],[],[],19,68⟩
@[simp] def zDix1:SX:=rop ROp.allB [rop ROp.eqI [.var 3,.cell (.var 0) (.var 2) 2 0],rop ROp.eqI [.var 4,.cell (.var 0) (.var 2) 2 1]]
@[simp] def zDix2:SX:=.bin .geq (.fn 1 [.var 0,.var 1,.var 2] 0) (.con (.int .i64 0))
@[simp] def zDix3:SX:=.bin .lss (.var 2) (.var 1)
@[simp] def zDix4:SX:=.bin .add (.var 2) (.con (.int .i64 1))
@[simp] def zDix5:Fact:=.idx (.var 0) (.var 2) 2 2
@[simp] def zDix6:List SX:=[.var 0,.var 1,.var 2]
theorem preI:segTo Try.prog fil.noOrc 10000 (flI.take 2) shI [] shIl [(1,0)]=some (.normal,[.ok (.len (.var 0)),.ok (.len (.var 0)),.ok (.con (.int .i64 0)),.ok (.var 1),.ok (.var 2)],[.var 0,.len (.var 0),.con (.int .i64 0),.var 1,.var 2]):=by kernel_rfl
theorem exI:segTo Try.prog fil.noOrc 10000 lpI shIl [0] shIX [] hE=some (.exit 0,[.ok zDix3,.is zDix3 (.bool false)],[]):=by kernel_rfl
theorem hitI:segTo Try.prog fil.noOrc 10000 lpI shIl [1,1] shIR [] hE=some (.ret,[.ok zDix3,.is zDix3 (.bool true),zDix5,zDix5,.ok (.cell (.var 0) (.var 2) 2 0),.ok (.cell (.var 0) (.var 2) 2 1),.ok zDix1,.is zDix1 (.bool true),.ok (.var 2)],[.var 2]):=by kernel_rfl
theorem noI:segTo Try.prog fil.noOrc 10000 lpI shIl [1,0] shIl [(0,0)] hE=some (.normal,[.ok zDix3,.is zDix3 (.bool true),zDix5,zDix5,.ok (.cell (.var 0) (.var 2) 2 0),.ok (.cell (.var 0) (.var 2) 2 1),.ok zDix1,.is zDix1 (.bool false),.ok zDix4,.ok (.var 1),.ok zDix4,.ok (.var 3),.ok (.var 4)],[.var 0,.var 1,zDix4,.var 3,.var 4]):=by kernel_rfl
theorem postI:segTo Try.prog fil.noOrc 10000 (flI.drop 3) shIX [] shIR []=some (.ret,[.ok (.con (.int .i64 (Int.negSucc 0)))],[.con (.int .i64 (Int.negSucc 0))]):=by kernel_rfl
theorem cn1:runTo Try.prog (orcFn tabI) 10000 53 (ECn 2) [.row,.num,.num] [1]=some ([.ok (.var 1),.ok (.var 2),.fn 68 (EIp 1) zDix6,.ok (.fn 1 zDix6 0),.ok zDix2,.is zDix2 (.bool true)],[.con (.bool true)]):=by kernel_rfl
theorem cn0:runTo Try.prog (orcFn tabI) 10000 53 (ECn 2) [.row,.num,.num] [0]=some ([.ok (.var 1),.ok (.var 2),.fn 68 (EIp 1) zDix6,.ok (.fn 1 zDix6 0),.ok zDix2,.is zDix2 (.bool false)],[.con (.bool false)]):=by kernel_rfl
theorem encP_inj:∀ xs ys:List Pr,encP.all xs=encP.all ys->xs=ys
 | [],[],_=>rfl
 | [],_ :: _,h=>by simp [Enc.all,encP] at h
 | _ :: _,[],h=>by simp [Enc.all,encP] at h
 | x :: xs,y :: ys,h=>by
  rw [Enc.all_cons,Enc.all_cons] at h
  obtain ⟨h1,h2⟩:=List.append_inj h (by rw [encP.len,encP.len])
  simp only [encP,List.cons.injEq,Value.int.injEq,true_and,and_true] at h1
  rw [Prod.ext h1.1 h1.2,encP_inj xs ys h2]
theorem cellPr (l:List Pr) (i:Nat) (h:i < l.length):Zd3 (pRow encP l) (pI (i:Int)) 2 0=some (pI l[i].1)/\Zd3 (pRow encP l) (pI (i:Int)) 2 1=some (pI l[i].2):=by
 have h2:l[i]?=some l[i]:=List.getElem?_eq_getElem h
 refine ⟨?_,?_⟩
 ·rw [Zca encP l i .i64 2 0 rfl h,Zdp encP l i 0 _ h2 (by decide)];rfl
 ·rw [Zca encP l i .i64 2 1 rfl h,Zdp encP l i 1 _ h2 (by decide)];rfl
theorem lenP (xs:List Pr):lenPV (pRow encP xs)=some (pI (xs.length:Int)):=rfl
theorem r_catP (acc:List Pr) (x:Pr):ropPV .cat [pRow encP acc,.row 1 [pI x.1,pI x.2]]=some (pRow encP (acc++[x])):=by simp [ropPV,pRow,Enc.all,encP]
theorem one_rowP (x:Pr):PV.row 1 [pI x.1,pI x.2]=pRow encP [x]:=by simp [pRow,Enc.all,encP]
theorem r_eqP (a b c d:Int):ropPV .allB [pB (a == c),pB (b == d)]=some (pB (decide ((a,b)=(c,d)))):=by
 simp only [ropPV,allPV,Option.map_some,Bool.and_true,Prod.mk.injEq]
 congr 3
 by_cases h1:a=c <;> by_cases h2:b=d <;> simp [h1,h2]
theorem r_eqI (a b:Int):ropPV .eqI [pI a,pI b]=some (pB (a == b)):=by simp [ropPV]
def idxP (p:Pr) (l:List Pr):Int:=match l.findIdx? (fun x=>decide (x=p)) with | some i=>(i:Int) | none=>-1
theorem idx_mem (p:Pr) (l:List Pr):decide (0<=idxP p l)=decide (p ∈ l):=by
 unfold idxP
 cases h:l.findIdx? (fun x=>decide (x=p)) with
 | some i =>
  obtain ⟨hi,hp,_⟩:=List.findIdx?_eq_some_iff_getElem.1 h
  have:p ∈ l:=by
   have:=of_decide_eq_true hp
   exact this ▸ List.getElem_mem hi
  simp [this]
 | none =>
  have:=List.findIdx?_eq_none_iff.1 h
  have:p ∉ l:=fun hm=>by have:=this p hm;simp at this
  simp [this]
def RIp (ps qs:List PV):Prop:=∃ (l:List Pr) (p:Pr),l.length<=1000000/\ps=[pRow encP l,pI p.1,pI p.2]/\qs=[pI (idxP p l)]
theorem in_inj {l l':List Pr} {p p':Pr} (h:[pRow encP l,pI p.1,pI p.2]=[pRow encP l',pI p'.1,pI p'.2]):l=l'/\p=p':=by
 obtain ⟨a,b⟩:=p
 obtain ⟨a',b'⟩:=p'
 simp only [List.cons.injEq,PV.v.injEq,Value.int.injEq,true_and,and_true] at h
 obtain ⟨h,rfl,rfl⟩:=h
 exact ⟨fil.pRow_inj encP_inj h,rfl⟩
theorem fIp:∀ ps q1 q2,RIp ps q1->RIp ps q2->q1=q2:=by
 rintro ps q1 q2 ⟨l,p,_,rfl,rfl⟩ ⟨l',p',_,h,rfl⟩
 obtain ⟨rfl,rfl⟩:=in_inj h
 rfl
def RCn (ps qs:List PV):Prop:=∃ (l:List Pr) (p:Pr),l.length<=1000000/\ps=[pRow encP l,pI p.1,pI p.2]/\qs=[pB (decide (p ∈ l))]
theorem fCn:∀ ps q1 q2,RCn ps q1->RCn ps q2->q1=q2:=by
 rintro ps q1 q2 ⟨l,p,_,rfl,rfl⟩ ⟨l',p',_,h,rfl⟩
 obtain ⟨rfl,rfl⟩:=in_inj h
 rfl
@[simp] theorem kIp (k:Nat):(EIp k).k=k:=rfl
@[simp] theorem kCn (k:Nat):(ECn k).k=k:=rfl
theorem cutI:flI=flI.take 2++.block (Zaf (nth flI 2)) (.loop (Zah (nth flI 2))) :: flI.drop 3:=by kernel_rfl
set_option maxHeartbeats 1000000 in
theorem toldIp (k:Nat):ToldF 68 (EIp k) (spec RIp):=by
 refine Zcy (fun _ _=>none) _ (Za1 Try.prog 68) Try.func68 (by kernel_rfl) shI (by kernel_rfl) ?_ ?_
 ·intro ps qs h
  obtain ⟨l,p,_,rfl,rfl⟩:=Zal h
  exact Zb3 rfl
 ·intro C ps qs hF h a w hsh
  obtain ⟨l,p,hl,rfl,rfl⟩:=Zal h
  show wpL Try.prog flI _ a w
  rw [cutI]
  refine Zad names_ok mixed_ok fil.noOrc_ok preI hsh ?_ ?_
  ·simp [Base.ev,SX.ev,evs,Value.oneCell',lenP]
  ·intro qs a1 w1 hq h1
   refine ⟨fun _=>?_,fun h=>absurd rfl h⟩
   simp [evs,SX.ev,lenP] at hq
   subst hq
   refine Zas (fun n a w=>∃ i,i<=l.length/\n=l.length - i/\(∀ j (hj:j < l.length),j < i->l[j] ≠ p)/\Zag C shIl [pRow encP l,pI (l.length:Int),pI (i:Int),pI p.1,pI p.2] a w) ?_ (n:=l.length) ⟨0,by omega,by omega,fun j _ hj=>absurd hj (by omega),h1⟩
   rintro n a w ⟨i,hi,rfl,hb,hin⟩
   show wpL Try.prog lpI _ a w
   rw [<- List.append_nil lpI]
   by_cases hlt:i < l.length
   ·obtain ⟨c0',c1'⟩:=cellPr l i hlt
    have ix:=Zan encP l i 2 2 .i64 rfl hlt (by decide)
    have v3:IntKind.i64.wrap ((i:Int)+1)=(i:Int)+1:=wrapI _ (by omega) (by omega)
    have re:=r_eqP p.1 p.2 l[i].1 l[i].2
    by_cases d1:p=l[i]
    ·have hq0:idxP p l=(i:Int):=by
      have:l.findIdx? (fun x=>decide (x=p))=some i:=List.findIdx?_eq_some_iff_getElem.2 ⟨hlt,by simp [d1],fun j hj=>by simpa using hb j (by omega) hj⟩
      simp only [idxP,this]
     have re':ropPV .allB [pB (p.1 == l[i].1),pB (p.2 == l[i].2)]=some (pB true):=by rw [re];simp [<- d1]
     refine Zad names_ok mixed_ok fil.noOrc_ok hitI hin ?_ ?_
     ·simp [Zab,Zaa,Base.ev,SX.ev,evs,Value.oneCell',lenP,binPV,c0',c1',ix,v3,hlt,r_eqI,re']
     ·intro qs a1 w1 hq h1
      refine ⟨nofun,fun _=>.inr (.inr ⟨rfl,.inr rfl,shIR,qs,[SX.var 0],h1,by kernel_rfl,?_⟩)⟩
      simp [evs,SX.ev] at hq ⊢
      subst hq
      simp [hq0]
    ·have re':ropPV .allB [pB (p.1 == l[i].1),pB (p.2 == l[i].2)]=some (pB false):=by rw [re];simp [d1]
     refine Zad names_ok mixed_ok fil.noOrc_ok noI hin ?_ ?_
     ·simp [Zab,Zaa,Base.ev,SX.ev,evs,Value.oneCell',lenP,binPV,c0',c1',ix,v3,hlt,r_eqI,re']
     ·intro qs a1 w1 hq h1
      refine ⟨fun _=>.inl ⟨rfl,l.length - (i+1),by omega,i+1,by omega,rfl,fun j hj hji=>?_,?_⟩,fun h=>absurd rfl h⟩
      ·by_cases hje:j=i
       ·subst hje;exact fun e=>d1 e.symm
       ·exact hb j hj (by omega)
      ·simp [evs,SX.ev,binPV,v3] at hq
       subst hq
       exact h1
   ·have hie:i=l.length:=by omega
    subst hie
    have hq0:idxP p l=-1:=by
     have:l.findIdx? (fun x=>decide (x=p))=none:=List.findIdx?_eq_none_iff.2 fun x hx=>by
      obtain ⟨j,hj,rfl⟩:=List.getElem_of_mem hx
      simpa using hb j hj hj
     simp only [idxP,this]
    refine Zad names_ok mixed_ok fil.noOrc_ok exI hin ?_ ?_
    ·simp [Base.ev,SX.ev,evs,Value.oneCell',binPV]
    ·intro qs a1 w1 hq h1
     refine ⟨nofun,fun _=>.inr (.inl ⟨by rw [show Zaf (nth flI 2)=0 by kernel_rfl];rfl,?_⟩)⟩
     rw [<- List.append_nil (flI.drop 3)]
     refine Zad names_ok mixed_ok fil.noOrc_ok postI h1 ?_ ?_
     ·simp [Base.ev,SX.ev,evs,Value.oneCell',binPV]
     intro qs a2 w2 hq h2
     refine ⟨nofun,fun _=>⟨.inr rfl,shIR,qs,[SX.var 0],h2,by kernel_rfl,?_⟩⟩
     simp [evs,SX.ev] at hq ⊢
     subst hq
     simp [hq0]
noncomputable def F:Fns:=fun k=>match k with | 1=>spec RIp | _=>fun _=>none
theorem t1:ToldF 68 (EIp 1) (F 1):=toldIp 1
theorem toldCn (k:Nat):ToldF 53 (ECn k) (spec RCn):=by
 refine Zbr mixed_ok names_ok F [.row,.num,.num] ?_
 intro ps qs h _
 obtain ⟨l,p,hl,rfl,rfl⟩:=Zal h
 have g1:F 1 [pRow encP l,pI p.1,pI p.2]=some [pI (idxP p l)]:=Zam fIp ⟨l,p,hl,rfl,rfl⟩
 have hm:=idx_mem p l
 by_cases h0:0<=idxP p l
 ·rw [decide_eq_true h0] at hm
  rw [<- hm]
  refine ⟨_,_,_,_,_,_,Zae tabI,cn1,fun w FP=>?_,?_⟩
  ·simp [Base.ev,SX.ev,evs,Value.oneCell',g1,dix.t1,binPV,h0]
  ·simp [evs,SX.ev,g1,binPV,h0]
 ·rw [decide_eq_false h0] at hm
  rw [<- hm]
  refine ⟨_,_,_,_,_,_,Zae tabI,cn0,fun w FP=>?_,?_⟩
  ·simp [Base.ev,SX.ev,evs,Value.oneCell',g1,dix.t1,binPV,h0]
  ·simp [evs,SX.ev,g1,binPV,h0]
def addP (acc:List Pr) (p:Pr):List Pr:=if p ∈ acc then acc else acc++[p]
def addC (f:Int):List Int->List Pr->List Pr
 | [],acc=>acc
 | c :: cl,acc=>addC f cl (addP acc (f,c))
def callsF (cl:LeM->List Int):List LeM->List Pr->List Pr
 | [],acc=>acc
 | w :: l,acc=>callsF cl l (addC w.2.2.1 (cl w) acc)
theorem Zmx (acc:List Pr) (p:Pr):(addP acc p).length<=acc.length+1:=by unfold addP;split <;> simp
theorem addC_take (f:Int) (cl:List Int) {k:Nat} (h:k < cl.length) (acc:List Pr):addC f (cl.drop k) acc=addC f (cl.drop (k+1)) (addP acc (f,cl[k])):=by
 rw [List.drop_eq_getElem_cons h];rfl
theorem calls_take (cl:LeM->List Int) (l:List LeM) {k:Nat} (h:k < l.length) (acc:List Pr):callsF cl (l.drop k) acc=callsF cl (l.drop (k+1)) (addC l[k].2.2.1 (cl l[k]) acc):=by
 rw [List.drop_eq_getElem_cons h];rfl
theorem Zmy (f:Int):∀ (cl:List Int) (acc:List Pr),(addC f cl acc).length<=acc.length+cl.length
 | [],acc=>by simp [addC]
 | c :: cl,acc=>by have h1:=Zmy f cl (addP acc (f,c));have h2:=Zmx acc (f,c);simp only [addC,List.length_cons];omega
end Go.Proofs.Ytcaclmdkhffegaa.dix
