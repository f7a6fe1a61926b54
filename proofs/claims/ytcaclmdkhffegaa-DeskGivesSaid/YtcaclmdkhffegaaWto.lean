/- Package line, told: Drop, with. -/
import Derived.Test.YtcaclmdkhffegaaWwi
import Derived.Test.YtcaclmdkhffegaaEng32
import Derived.Test.YtcaclmdkhffegaaLgr
namespace Go.Proofs.Ytcaclmdkhffegaa.wto
open Go Go.RowKit eng SX Fact fil lem lea leb wdr wwi wlm
set_option linter.unusedVariables false
set_option linter.unusedSimpArgs false
set_option maxRecDepth 1000000
def EDw (k:Nat):FnE:={ k:=k,ins:=[none,none],leaks:=[false,false],outs:=[none],kinds:=[.row] }
def EIx (k:Nat):FnE:={ k:=k,ins:=[],leaks:=[],outs:=[none],kinds:=[.num] }
def ECa (k:Nat):FnE:={ k:=k,ins:=[],leaks:=[],outs:=[none],kinds:=[.row] }
def EWi (k:Nat):FnE:={ k:=k,ins:=[none,some 4],leaks:=[false,false,false,false,false],outs:=[none],kinds:=[.row] }
def gIx:List GA:=[.one,.fn 96 [4]]
def gC1:List GA:=[.row 1]
def gC3:List GA:=[.row 3]
def tabD (f:FuncId):Option FnE:=cond (Nat.beq f 56) (some (EDw 1)) none
def tabG (f:FuncId) (args:List AV):Option (List GA × FnE):=cond (Nat.beq f 94) (some (gIx,EIx 2)) (cond (Nat.beq f 27) (match args with | [.slice _ _ _ _ n _ _]=>cond (Nat.beq n 1) (some (gC1,ECa 3)) (cond (Nat.beq n 3) (some (gC3,ECa 4)) none) | _=>none) none)
def orcW:Orc:=orcOr (orcFn tabD) (orcG tabG)
def shW:Shape:=⟨[(0,.leaf),(1,.agg 4)],[],[some false,none,none,none,none],34,79⟩
def shP:Shape:=⟨[],[],[],34,79⟩
noncomputable def flW:=flat (Za1 Try.prog 79)
def pvW:Value:=(.iface 9 (.string { data:={ toList:=[UInt8.ofNat 108,UInt8.ofNat 105,UInt8.ofNat 110,UInt8.ofNat 101,UInt8.ofNat 58,UInt8.ofNat 32,UInt8.ofNat 110,UInt8.ofNat 111,UInt8.ofNat 32,UInt8.ofNat 114,UInt8.ofNat 111,UInt8.ofNat 111,UInt8.ofNat 109] } }))
@[simp] def zWto1:SX:=.fn 2 [.var 0,.var 1,.var 2,.var 3,.var 4] 0
@[simp] def zWto2:List SX:=[.fn 1 [SX.sub (.var 0) (rop ROp.min2 [.con (.int .i64 0),.con (.int .i64 0)]) zWto1 4,.var 1] 0,.lit 1 [.var 1,.var 2,.var 3,.var 4],.fn 1 [SX.sub (.var 0) (rop ROp.min2 [.bin .add zWto1 (.con (.int .i64 1)),.bin .add zWto1 (.con (.int .i64 1))]) (.len (.var 0)) 4,.var 1] 0]
@[simp] def zWto3:SX:=.bin .add zWto1 (.con (.int .i64 1))
@[simp] def zWto4:SX:=.bin .lss zWto1 (.con (.int .i64 0))
@[simp] def zWto5:SX:=.bin .geq (.len (.fn 1 [.var 0,.var 1] 0)) (.con (.int .i64 4))
@[simp] def zWto6:SX:=rop ROp.min2 [.con (.int .i64 0),.con (.int .i64 0)]
theorem wA:runTo Try.prog orcW 10000 79 (EWi 5) [.row,.num,.num,.num,.num] [0]=some ([.ok (.var 1),.ok (.var 2),.ok (.var 3),.ok (.var 4),Fact.fg 94 gIx (EIx 2) [.var 0,.var 1,.var 2,.var 3,.var 4],.ok zWto1,.ok zWto4,.is zWto4 (.bool false),le3 zWto6 zWto1 (.len (.var 0)),.fn 56 (EDw 1) [SX.sub (.var 0) zWto6 zWto1 4,.var 1],.ok zWto3,le3 (rop ROp.min2 [zWto3,zWto3]) (.len (.var 0)) (.len (.var 0)),.fn 56 (EDw 1) [SX.sub (.var 0) (rop ROp.min2 [zWto3,zWto3]) (.len (.var 0)) 4,.var 1],Fact.fg 27 gC3 (ECa 4) zWto2],[.fn 4 zWto2 0]):=by kernel_rfl
theorem wB:segTo Try.prog orcW 10000 flW shW [1,1] shP []=some (.panic pvW,[Fact.fg 94 gIx (EIx 2) [.var 0,.var 1,.var 2,.var 3,.var 4],.ok zWto1,.ok zWto4,.is zWto4 (.bool true),.fn 56 (EDw 1) [.var 0,.var 1],.ok (.len (.fn 1 [.var 0,.var 1] 0)),.ok zWto5,.is zWto5 (.bool true)],[]):=by kernel_rfl
theorem orcW_ok:OrcOk Try.prog orcW:=Zgh (Zae _) (Zn2 _)
@[simp] theorem kDw (k:Nat):(EDw k).k=k:=rfl
@[simp] theorem kIx (k:Nat):(EIx k).k=k:=rfl
@[simp] theorem kCa (k:Nat):(ECa k).k=k:=rfl
@[simp] theorem kWi (k:Nat):(EWi k).k=k:=rfl
theorem Zg1 {w' w2:World} {xs:List LeM} {v:Value} {q:Nat} (h:w'.ownsRow q 25 4 v xs.length (encL.all xs)) (hw:∀ k,(q<=k/\k < w'.heap.size)->w2.heap[k]?=w'.heap[k]?):Reads w2 (pRow encL xs) v:=by
 rcases h.2 with ⟨rfl,h0⟩ | ⟨b,cap,cur,rfl,hb,hc,h1,h2,h3,h4⟩
 ·rw [List.eq_nil_of_length_eq_zero h0]
  simp only [pRow,Reads]
  exact ⟨none,0,rfl,Nat.le_refl _,Nat.zero_le _,.inl rfl⟩
 ·have hlt:b < w'.heap.size:=(Array.getElem?_eq_some_iff.1 hc).1
  simp only [pRow,Reads]
  refine ⟨_,_,rfl,h1,h2,.inr ⟨b,0,rfl,Za8.of fun j p hj=>?_⟩⟩
  rw [List.getElem?_map,Option.map_eq_some_iff] at hj
  obtain ⟨u,hu,rfl⟩:=hj
  refine ⟨u,?_,rfl,encL.all_one' xs u (List.mem_of_getElem? hu)⟩
  simp only [World.cell?,hw b ⟨hb,hlt⟩,hc,Nat.zero_add]
  rw [<- h4,List.getElem?_take] at hu
  split at hu
  ·simpa using hu
  ·cases hu
def RDw (ps qs:List PV):Prop:=∃ (l:List LeM) (c:Int),l.length<=1000000/\ps=[pRow encL l,pI c]/\qs=[pRow encL (dropW l c)]
theorem fDw:∀ ps q1 q2,RDw ps q1->RDw ps q2->q1=q2:=by
 rintro ps q1 q2 ⟨l,c,_,rfl,rfl⟩ ⟨l',c',_,h,rfl⟩
 simp only [List.cons.injEq,PV.v.injEq,Value.int.injEq,true_and,and_true] at h
 obtain ⟨h,rfl⟩:=h
 rw [fil.pRow_inj Zar h]
theorem Zpz (k:Nat):ToldF 56 (EDw k) (spec RDw):=by
 intro w FP us ps qs hsp hul hpl hFP hrd
 obtain ⟨l,c,hl,rfl,rfl⟩:=Zal hsp
 obtain ⟨u0,u1,rfl⟩:∃ u0 u1,us=[u0,u1]:=by
  match us,hul with
  | [a,b],_=>exact ⟨a,b,rfl⟩
 have r0:=Zdx (hrd 0 _ u0 rfl rfl).1
 obtain rfl:=Zbe (hrd 1 _ u1 rfl rfl).1
 refine (Zjs c u0 l w r0 hl).mono ?_
 rintro e w' ⟨v,rfl,hown,hE⟩
 refine ⟨[v],fun _=>none,rfl,rfl,Zbk rfl,fun i q u hq hu w2 hw2=>?_,rfl,hE⟩
 match i,hq,hu with
 | 0,hq,hu =>
  simp at hq hu;subst hq;subst hu
  exact Zg1 hown fun k hk=>hw2 k (.inr hk) (fun j _=>by simp)
 | i+1,hq,hu=>simp at hq
def RIx (ps qs:List PV):Prop:=∃ (l:List LeM) (c s f m:Int),l.length<=1000000/\ps=[pRow encL l,pI c,pI s,pI f,pI m]/\qs=[pI (lem.idx (isW c f) l)]
theorem fIx:∀ ps q1 q2,RIx ps q1->RIx ps q2->q1=q2:=by
 rintro ps q1 q2 ⟨l,c,s,f,m,_,rfl,rfl⟩ ⟨l',c',s',f',m',_,h,rfl⟩
 simp only [List.cons.injEq,PV.v.injEq,Value.int.injEq,true_and,and_true] at h
 obtain ⟨h,rfl,rfl,rfl,rfl⟩:=h
 rw [fil.pRow_inj Zar h]
theorem toldIx (k:Nat):ToldG 94 gIx (EIx k) (spec RIx):=by
 intro w FP vs us ps qs hsp hM hul hFP hrd
 obtain ⟨l,c,s,f,m,hl,rfl,rfl⟩:=Zal hsp
 obtain ⟨v,vs',us',rfl,rfl,ads,cs,vs'',us'',⟨b,c4,ads',cs',h4,hc,rfl,rfl,rfl,rfl⟩,rfl,rfl,rfl,rfl⟩:=hM
 match c4,h4 with
 | [c0,c1,c2,c3],_ =>
  have r0:=Zdx (hrd 0 _ v rfl rfl).1
  obtain rfl:=Zbe (hrd 1 _ c0 rfl rfl).1
  obtain rfl:=Zbe (hrd 3 _ c2 rfl rfl).1
  refine (index_with c f b v l w r0 hl (hc 0 _ rfl) (hc 2 _ rfl)).mono ?_
  rintro e w' ⟨rfl,hE⟩
  refine ⟨[_],fun _=>none,rfl,rfl,Zbk rfl,fun i q u hq hu w2 _=>?_,rfl,hE⟩
  match i,hq,hu with
  | 0,hq,hu=>simp at hq hu;subst hq;subst hu;simp only [Reads];exact ⟨trivial,rfl⟩
  | i+1,hq,hu=>simp at hq
def RC1 (ps qs:List PV):Prop:=∃ (a:List LeM),a.length<=1000000/\ps=[pRow encL a]/\qs=[pRow encL a]
theorem fC1:∀ ps q1 q2,RC1 ps q1->RC1 ps q2->q1=q2:=by
 rintro ps q1 q2 ⟨a,_,rfl,rfl⟩ ⟨a',_,h,rfl⟩
 exact h
theorem told_cat {G:List GA} {k n:Nat} {R:List PV->List PV->Prop} (hG:G=[.row n]) (hR:∀ ps qs,R ps qs->∃ xss:List (List LeM),xss.length=n/\xss.flatten.length<=1000000/\ps=xss.map (pRow encL)/\qs=[pRow encL xss.flatten]) :
  ToldG 27 G (ECa k) (spec R):=by
 subst hG
 intro w FP vs us ps qs hsp hM hul hFP hrd
 obtain ⟨xss,hn,hl,rfl,rfl⟩:=hR _ _ (Zal hsp)
 obtain ⟨b,off,cap,cs,vs',us',h1,h2,h3,hc,rfl,rfl,rfl,rfl⟩:=hM
 rw [List.append_nil] at hul hrd
 have hcx:cs.length=xss.length:=by rw [h1,hn]
 have hv:RowV w (.slice (some ⟨b,off,none⟩) n cap) cs:=⟨_,cap,by rw [h1],by omega,h3,fun _=>⟨b,off,rfl,hc⟩⟩
 have hrow:caw.Rows w cs xss:=⟨hcx,fun i v hi=>by
  have hlt:i < xss.length:=by rw [<- hcx];exact (List.getElem?_eq_some_iff.1 hi).1
  have:=Zdx (hrd i (pRow encL xss[i]) v (by rw [List.getElem?_map,List.getElem?_eq_getElem hlt];rfl) hi).1
  simpa [List.getD,List.getElem?_eq_getElem hlt] using this⟩
 refine (caw.concat_any _ cs xss w hv hrow hl).mono ?_
 rintro e w' ⟨v,rfl,hown,hE⟩
 refine ⟨[v],fun _=>none,rfl,rfl,Zbk rfl,fun i q u hq hu w2 hw2=>?_,rfl,hE⟩
 match i,hq,hu with
 | 0,hq,hu =>
  simp at hq hu;subst hq;subst hu
  exact Zg1 hown fun k hk=>hw2 k (.inr hk) (fun j _=>by simp)
 | i+1,hq,hu=>simp at hq
theorem Zq0 (k:Nat):ToldG 27 gC1 (ECa k) (spec RC1) :=
 told_cat rfl fun ps qs ⟨a,h1,h2,h3⟩=>⟨[a],rfl,by simpa using h1,h2,by simpa using h3⟩
def RC3 (ps qs:List PV):Prop:=∃ (a b c:List LeM),(a++b++c).length<=1000000/\ps=[pRow encL a,pRow encL b,pRow encL c]/\qs=[pRow encL (a++b++c)]
theorem fC3:∀ ps q1 q2,RC3 ps q1->RC3 ps q2->q1=q2:=by
 rintro ps q1 q2 ⟨a,b,c,_,rfl,rfl⟩ ⟨a',b',c',_,h,rfl⟩
 simp only [List.cons.injEq,and_true] at h
 obtain ⟨h1,h2,h3⟩:=h
 rw [fil.pRow_inj Zar h1,fil.pRow_inj Zar h2,fil.pRow_inj Zar h3]
theorem toldC3 (k:Nat):ToldG 27 gC3 (ECa k) (spec RC3) :=
 told_cat rfl fun ps qs ⟨a,b,c,h1,h2,h3⟩=>⟨[a,b,c],rfl,by simpa using h1,h2,by simpa using h3⟩
noncomputable def FW:Fns:=fun k=>match k with | 1=>spec RDw | 2=>spec RIx | 4=>spec RC3 | _=>fun _=>none
theorem FW1 {l:List LeM} {c:Int} (h:l.length<=1000000):FW 1 [pRow encL l,pI c]=some [pRow encL (dropW l c)]:=Zam fDw ⟨l,c,h,rfl,rfl⟩
theorem FW2 {l:List LeM} {c s f m:Int} (h:l.length<=1000000):FW 2 [pRow encL l,pI c,pI s,pI f,pI m]=some [pI (lem.idx (isW c f) l)]:=Zam fIx ⟨l,c,s,f,m,h,rfl,rfl⟩
theorem FW4 {a b c:List LeM} (h:(a++b++c).length<=1000000):FW 4 [pRow encL a,pRow encL b,pRow encL c]=some [pRow encL (a++b++c)]:=Zam fC3 ⟨a,b,c,h,rfl,rfl⟩
theorem w1:ToldF 56 (EDw 1) (FW 1):=Zpz 1
theorem w2:ToldG 94 gIx (EIx 2) (FW 2):=toldIx 2
theorem w4:ToldG 27 gC3 (ECa 4) (FW 4):=toldC3 4
theorem subL (xs:List LeM) (a b:Nat) (h1:a<=b) (h2:b<=xs.length):subPV (pRow encL xs) (pI (a:Int)) (pI (b:Int)) 4=some (pRow encL ((xs.drop a).take (b - a))):=by
 have g1:(a:Int)<=(b:Int):=by omega
 have g2:(b:Int)<=(xs.length:Int):=by omega
 have g3:(0:Int)<=(a:Int):=by omega
 have ha:(encL.all (xs.take a)).length=a * 4:=by rw [Enc.all_length,List.length_take,Nat.min_eq_left (by omega)];rfl
 have e1:(encL.all xs).drop (a * 4)=encL.all (xs.drop a):=by
  conv=>lhs;rw [<- List.take_append_drop a xs,Enc.all_append,<- ha,List.drop_left' rfl]
 have hb:(encL.all ((xs.drop a).take (b - a))).length=(b - a) * 4:=by rw [Enc.all_length,List.length_take,List.length_drop,Nat.min_eq_left (by omega)];rfl
 have e2:(encL.all (xs.drop a)).take ((b - a) * 4)=encL.all ((xs.drop a).take (b - a)):=by
  conv=>lhs;rw [<- List.take_append_drop (b - a) (xs.drop a),Enc.all_append,<- hb,List.take_left' rfl]
 simp only [subPV,pRow,g1,g2,g3,decide_true,Bool.and_self,cond_true,Int.toNat_natCast,<- List.map_drop,<- List.map_take,e1,e2,List.length_take,List.length_drop,Nat.min_eq_left (show b - a<=xs.length - a by omega)]
def RWa (ps qs:List PV):Prop:=∃ (l:List LeM) (x:LeM) (k:Nat),l.length<=999999/\l.findIdx? (isW x.1 x.2.2.1)=some k/\ps=pRow encL l :: p4 x/\qs=[pRow encL (dropW (l.take k) x.1++[x]++dropW (l.drop (k+1)) x.1)]
theorem fWa:∀ ps q1 q2,RWa ps q1->RWa ps q2->q1=q2:=by
 rintro ps q1 q2 ⟨l,x,k,_,h1,rfl,rfl⟩ ⟨l',x',k',_,h2,h,rfl⟩
 simp only [List.cons.injEq] at h
 obtain ⟨h,h3⟩:=h
 obtain rfl:=fil.pRow_inj Zar h
 obtain rfl:=Zjh h3
 rw [h1] at h2
 cases h2;rfl
theorem one_rowL (x:LeM):PV.row 1 [pI x.1,pI x.2.1,pI x.2.2.1,pI x.2.2.2]=pRow encL [x]:=by simp [pRow,Enc.all,encL]
set_option maxHeartbeats 2000000 in
theorem toldWa (k:Nat):ToldF 79 (EWi k) (spec RWa):=by
 refine Zbr mixed_ok names_ok FW [.row,.num,.num,.num,.num] ?_
 intro ps qs h _
 obtain ⟨l,x,i,hl,hi,rfl,rfl⟩:=Zal h
 have hil:i < l.length:=by
  obtain ⟨h,_⟩:=List.findIdx?_eq_some_iff_getElem.1 hi;exact h
 have g2:=FW2 (c:=x.1) (s:=x.2.1) (f:=x.2.2.1) (m:=x.2.2.2) (show l.length<=1000000 by omega)
 rw [show lem.idx (isW x.1 x.2.2.1) l=(i:Int) by simp [lem.idx,hi]] at g2
 have s1:subPV (pRow encL l) (pI 0) (pI (i:Int)) 4=some (pRow encL (l.take i)):=subL l 0 i (by omega) (by omega)
 have s2:subPV (pRow encL l) (pI ((i:Int)+1)) (pI (l.length:Int)) 4=some (pRow encL (l.drop (i+1))):=by
  have:=subL l (i+1) l.length (by omega) (by omega)
  rw [List.take_of_length_le (by rw [List.length_drop];omega)] at this
  exact this
 have g1:=FW1 (l:=l.take i) (c:=x.1) (by rw [List.length_take];omega)
 have g3:=FW1 (l:=l.drop (i+1)) (c:=x.1) (by rw [List.length_drop];omega)
 have d1:=Zdn (l.take i) x.1
 have d2:=Zdn (l.drop (i+1)) x.1
 rw [List.length_take,Nat.min_eq_left (by omega)] at d1
 rw [List.length_drop] at d2
 have g4:=FW4 (a:=dropW (l.take i) x.1) (b:=[x]) (c:=dropW (l.drop (i+1)) x.1) (by simp only [List.length_append,List.length_cons,List.length_nil];omega)
 have v1:IntKind.i64.wrap ((i:Int)+1)=(i:Int)+1:=wrapI _ (by omega) (by omega)
 have o1:=one_rowL x
 rw [List.append_assoc,List.singleton_append] at g4
 generalize dropW (l.take i) x.1=A at *
 generalize dropW (l.drop (i+1)) x.1=B at *
 generalize l.take i=L1 at *
 generalize l.drop (i+1)=L2 at *
 obtain ⟨x0,x1,x2,x3⟩:=x
 simp only [p4] at *
 refine ⟨_,_,_,_,_,_,orcW_ok,wA,fun w FP=>?_,?_⟩
 ·simp [Base.ev,SX.ev,evs,Value.oneCell',g1,g2,g3,g4,w1,w2,w4,s1,s2,o1,v1,binPV,ropPV,Zac]
  exact ⟨⟨0,rfl,by omega,by omega⟩,i+1,rfl,by omega⟩
 ·simp [evs,SX.ev,g1,g2,g3,g4,s1,s2,o1,v1,binPV,ropPV,Zac]
def RWb (ps qs:List PV):Prop:=∃ (l:List LeM) (x:LeM),l.length<=999999/\l.findIdx? (isW x.1 x.2.2.1)=none/\4<=(dropW l x.1).length/\ps=pRow encL l :: p4 x/\qs=[pI (0+1:Nat)]
theorem fWb:∀ ps q1 q2,RWb ps q1->RWb ps q2->q1=q2:=by
 rintro ps q1 q2 ⟨_,_,_,_,_,_,rfl⟩ ⟨_,_,_,_,_,_,rfl⟩;rfl
theorem toldWb (k:Nat):ToldX 79 (EWi k) [pvW] (spec RWb):=by
 refine Zmb FW _ (Za1 Try.prog 79) Try.func79 (by kernel_rfl) shW (by kernel_rfl) ?_ ?_
 ·intro ps qs h
  obtain ⟨l,x,_,_,_,rfl,rfl⟩:=Zal h
  exact Zb3 rfl
 ·intro C ps qs hF h a w hsh
  obtain ⟨l,x,hl,hi,h4,rfl,rfl⟩:=Zal h
  have g2:=FW2 (c:=x.1) (s:=x.2.1) (f:=x.2.2.1) (m:=x.2.2.2) (show l.length<=1000000 by omega)
  rw [show lem.idx (isW x.1 x.2.2.1) l=-1 by simp [lem.idx,hi]] at g2
  have g1:=FW1 (l:=l) (c:=x.1) (by omega)
  have d1:=Zdn l x.1
  generalize dropW l x.1=A at *
  obtain ⟨x0,x1,x2,x3⟩:=x
  simp only [p4] at *
  show wpL Try.prog flW _ a w
  rw [<- List.append_nil flW]
  refine Zad names_ok mixed_ok orcW_ok wB hsh ?_ ?_
  ·simp [Base.ev,SX.ev,evs,Value.oneCell',hF,g1,g2,w1,w2,binPV,Zac]
   all_goals omega
  ·intro qs a2 w2 hq h2
   exact ⟨nofun,fun _=>.inr ⟨0,_,_,_,rfl,rfl,rfl,h2⟩⟩
def putQ (l:List LeM) (x:LeM):List PV:=match putL l x with | some r=>[pI 0,pRow encL r] | none=>[pI (0+1:Nat)]
def RWi (ps qs:List PV):Prop:=∃ (l:List LeM) (x:LeM),l.length<=999999/\ps=pRow encL l :: p4 x/\qs=putQ l x
theorem fWi:∀ ps q1 q2,RWi ps q1->RWi ps q2->q1=q2:=by
 rintro ps q1 q2 ⟨l,x,_,rfl,rfl⟩ ⟨l',x',_,h,rfl⟩
 simp only [List.cons.injEq] at h
 obtain ⟨h,h3⟩:=h
 obtain rfl:=fil.pRow_inj Zar h
 obtain rfl:=Zjh h3
 rfl
theorem toldWi (k:Nat):ToldX 79 (EWi k) [pvW] (spec RWi):=by
 intro w FP us ps qs hsp hul hpl hFP hrd
 obtain ⟨l,x,hl,rfl,rfl⟩:=Zal hsp
 cases hi:l.findIdx? (isW x.1 x.2.2.1) with
 | some i =>
  have hp:putQ l x=[pI 0,pRow encL (dropW (l.take i) x.1++[x]++dropW (l.drop (i+1)) x.1)]:=by simp only [putQ,putL,hi]
  rw [hp]
  refine (toldWa k w FP us _ _ (Zam fWa ⟨l,x,i,hl,hi,rfl,rfl⟩) hul hpl hFP hrd).mono ?_
  intro e w' h
  exact .inl ⟨_,rfl,h⟩
 | none =>
  by_cases h4:(dropW l x.1).length < 4
  ·have hp:putQ l x=[pI 0,pRow encL (dropW l x.1++[x])]:=by simp only [putQ,putL,hi,h4,if_true]
   rw [hp]
   obtain ⟨u0,u1,u2,u3,u4,rfl⟩:∃ u0 u1 u2 u3 u4,us=[u0,u1,u2,u3,u4]:=by
    match us,hul with
    | [a,b,c,d,e],_=>exact ⟨a,b,c,d,e,rfl⟩
   have r0:=Zdx (hrd 0 _ u0 rfl rfl).1
   obtain rfl:=Zbe (hrd 1 (pI x.1) u1 rfl rfl).1
   obtain rfl:=Zbe (hrd 2 (pI x.2.1) u2 rfl rfl).1
   obtain rfl:=Zbe (hrd 3 (pI x.2.2.1) u3 rfl rfl).1
   obtain rfl:=Zbe (hrd 4 (pI x.2.2.2) u4 rfl rfl).1
   refine (with_out x u0 l w r0 (by omega) (by simp [lem.idx,hi]) h4).mono ?_
   rintro e w' ⟨v,rfl,hown,hE⟩
   refine .inl ⟨_,rfl,[v],fun _=>none,rfl,rfl,Zbk rfl,fun i q u hq hu w2 hw2=>?_,rfl,hE⟩
   match i,hq,hu with
   | 0,hq,hu =>
    simp only [List.getElem?_cons_zero,Option.some.injEq] at hq hu;subst hq;subst hu
    exact Zg1 hown fun k hk=>hw2 k (.inr hk) (fun j _=>by simp)
   | i+1,hq,hu=>simp at hq
  ·have hp:putQ l x=[pI (0+1:Nat)]:=by simp only [putQ,putL,hi,h4,if_false]
   rw [hp]
   exact toldWb k w FP us _ _ (Zam fWb ⟨l,x,hl,hi,by omega,rfl,rfl⟩) hul hpl hFP hrd
end Go.Proofs.Ytcaclmdkhffegaa.wto
