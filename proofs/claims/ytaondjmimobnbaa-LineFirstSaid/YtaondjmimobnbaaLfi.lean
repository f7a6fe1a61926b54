/- Texts joined. -/
import Derived.Test.YtaondjmimobnbaaWwi
import Derived.Test.YtaondjmimobnbaaEng32
import Derived.Test.YtaondjmimobnbaaLeb
import Derived.Test.YtaondjmimobnbaaMrg4
import Derived.Test.YtaondjmimobnbaaLea
import Derived.Test.YtaondjmimobnbaaWfm
import Derived.Test.YtaondjmimobnbaaWfi
section
/- Texts joined. -/
section
/- Package line, told: Drop, with. -/
namespace Go.Proofs.Ytaondjmimobnbaa.wto
open Go Go.RowKit eng SX Fact fil lem lea leb wdr wwi wlm
set_option linter.unusedVariables false
set_option linter.unusedSimpArgs false
set_option maxRecDepth 1000000
def EDw (k:Nat):FnE:={ k:=k,ins:=[none,none],leaks:=[false,false],outs:=[none],kinds:=[.row] }
def EIx (k:Nat):FnE:={ k:=k,ins:=[],leaks:=[],outs:=[none],kinds:=[.num] }
def ECa (k:Nat):FnE:={ k:=k,ins:=[],leaks:=[],outs:=[none],kinds:=[.row] }
def EWi (k:Nat):FnE:={ k:=k,ins:=[none,some 4],leaks:=[false,false,false,false,false],outs:=[none],kinds:=[.row] }
def gIx:List GA:=[.one,.fn 26 [4]]
def gC1:List GA:=[.row 1]
def gC3:List GA:=[.row 3]
def tabD (f:FuncId):Option FnE:=cond (Nat.beq f 10) (some (EDw 1)) none
def tabG (f:FuncId) (args:List AV):Option (List GA × FnE):=cond (Nat.beq f 25) (some (gIx,EIx 2)) (cond (Nat.beq f 18) (match args with | [.slice _ _ _ _ n _ _]=>cond (Nat.beq n 1) (some (gC1,ECa 3)) (cond (Nat.beq n 3) (some (gC3,ECa 4)) none) | _=>none) none)
def orcW:Orc:=orcOr (orcFn tabD) (orcG tabG)
def shW:Shape:=⟨[(0,.leaf),(1,.agg 4)],[],[some false,none,none,none,none],34,17⟩
def shP:Shape:=⟨[],[],[],34,17⟩
noncomputable def flW:=flat (Zgu Try.prog 17)
def pvW:Value:=(.iface 9 (.string { data:={ toList:=[UInt8.ofNat 108,UInt8.ofNat 105,UInt8.ofNat 110,UInt8.ofNat 101,UInt8.ofNat 58,UInt8.ofNat 32,UInt8.ofNat 110,UInt8.ofNat 111,UInt8.ofNat 32,UInt8.ofNat 114,UInt8.ofNat 111,UInt8.ofNat 111,UInt8.ofNat 109] } }))
@[simp] def zWto1:SX:=.fn 2 [.var 0,.var 1,.var 2,.var 3,.var 4] 0
@[simp] def zWto2:List SX:=[.fn 1 [SX.sub (.var 0) (rop ROp.min2 [.con (.int .i64 0),.con (.int .i64 0)]) zWto1 4,.var 1] 0,.lit 1 [.var 1,.var 2,.var 3,.var 4],.fn 1 [SX.sub (.var 0) (rop ROp.min2 [.bin .add zWto1 (.con (.int .i64 1)),.bin .add zWto1 (.con (.int .i64 1))]) (.len (.var 0)) 4,.var 1] 0]
@[simp] def zWto3:SX:=.bin .add zWto1 (.con (.int .i64 1))
@[simp] def zWto4:SX:=.bin .lss zWto1 (.con (.int .i64 0))
@[simp] def zWto5:SX:=.bin .geq (.len (.fn 1 [.var 0,.var 1] 0)) (.con (.int .i64 4))
@[simp] def zWto6:SX:=rop ROp.min2 [.con (.int .i64 0),.con (.int .i64 0)]
theorem wA:runTo Try.prog orcW 10000 17 (EWi 5) [.row,.num,.num,.num,.num] [0]=some ([.ok (.var 1),.ok (.var 2),.ok (.var 3),.ok (.var 4),Fact.fg 25 gIx (EIx 2) [.var 0,.var 1,.var 2,.var 3,.var 4],.ok zWto1,.ok zWto4,.is zWto4 (.bool false),le3 zWto6 zWto1 (.len (.var 0)),.fn 10 (EDw 1) [SX.sub (.var 0) zWto6 zWto1 4,.var 1],.ok zWto3,le3 (rop ROp.min2 [zWto3,zWto3]) (.len (.var 0)) (.len (.var 0)),.fn 10 (EDw 1) [SX.sub (.var 0) (rop ROp.min2 [zWto3,zWto3]) (.len (.var 0)) 4,.var 1],Fact.fg 18 gC3 (ECa 4) zWto2],[.fn 4 zWto2 0]):=by kernel_rfl
theorem wB:segTo Try.prog orcW 10000 flW shW [1,1] shP []=some (.panic pvW,[Fact.fg 25 gIx (EIx 2) [.var 0,.var 1,.var 2,.var 3,.var 4],.ok zWto1,.ok zWto4,.is zWto4 (.bool true),.fn 10 (EDw 1) [.var 0,.var 1],.ok (.len (.fn 1 [.var 0,.var 1] 0)),.ok zWto5,.is zWto5 (.bool true)],[]):=by kernel_rfl
theorem orcW_ok:OrcOk Try.prog orcW:=orcOr_ok (Zai _) (orcG_ok _)
@[simp] theorem kDw (k:Nat):(EDw k).k=k:=rfl
@[simp] theorem kIx (k:Nat):(EIx k).k=k:=rfl
@[simp] theorem kCa (k:Nat):(ECa k).k=k:=rfl
@[simp] theorem kWi (k:Nat):(EWi k).k=k:=rfl
theorem Zec {w' w2:World} {xs:List LeM} {v:Value} {q:Nat} (h:w'.ownsRow q 24 4 v xs.length (encL.all xs)) (hw:∀ k,(q<=k/\k < w'.heap.size)->w2.heap[k]?=w'.heap[k]?):Reads w2 (pRow encL xs) v:=by
 rcases h.2 with ⟨rfl,h0⟩ | ⟨b,cap,cur,rfl,hb,hc,h1,h2,h3,h4⟩
 ·rw [List.eq_nil_of_length_eq_zero h0]
  simp only [pRow,Reads]
  exact ⟨none,0,rfl,Nat.le_refl _,Nat.zero_le _,.inl rfl⟩
 ·have hlt:b < w'.heap.size:=(Array.getElem?_eq_some_iff.1 hc).1
  simp only [pRow,Reads]
  refine ⟨_,_,rfl,h1,h2,.inr ⟨b,0,rfl,Zat.of fun j p hj=>?_⟩⟩
  rw [List.getElem?_map,Option.map_eq_some_iff] at hj
  obtain ⟨u,hu,rfl⟩:=hj
  refine ⟨u,?_,rfl,encL.all_one' xs u (List.mem_of_getElem? hu)⟩
  simp only [World.cell?,hw b ⟨hb,hlt⟩,hc,Nat.zero_add]
  rw [<- h4,List.getElem?_take] at hu
  split at hu
  ·simpa using hu
  ·cases hu
def RDw (ps qs:List PV):Prop:=∃ (l:List LeM) (c:Int),l.length<=1000000/\ps=[pRow encL l,pI c]/\qs=[pRow encL (dropW l c)]
theorem fDw:∀ ps q1 q2,RDw ps q1->RDw ps q2->q1=q2:=by
 rintro ps q1 q2 ⟨l,c,_,rfl,rfl⟩ ⟨l',c',_,h,rfl⟩
 simp only [List.cons.injEq,PV.v.injEq,Value.int.injEq,true_and,and_true] at h
 obtain ⟨h,rfl⟩:=h
 rw [fil.pRow_inj Zbq h]
theorem Zjj (k:Nat):ToldF 10 (EDw k) (spec RDw):=by
 intro w FP us ps qs hsp hul hpl hFP hrd
 obtain ⟨l,c,hl,rfl,rfl⟩:=Zbp hsp
 obtain ⟨u0,u1,rfl⟩:∃ u0 u1,us=[u0,u1]:=by
  match us,hul with
  | [a,b],_=>exact ⟨a,b,rfl⟩
 have r0:=Zes (hrd 0 _ u0 rfl rfl).1
 obtain rfl:=Zch (hrd 1 _ u1 rfl rfl).1
 refine (drop_any c u0 l w r0 hl).mono ?_
 rintro e w' ⟨v,rfl,hown,hE⟩
 refine ⟨[v],fun _=>none,rfl,rfl,Zb0 rfl,fun i q u hq hu w2 hw2=>?_,rfl,hE⟩
 match i,hq,hu with
 | 0,hq,hu =>
  simp at hq hu;subst hq;subst hu
  exact Zec hown fun k hk=>hw2 k (.inr hk) (fun j _=>by simp)
 | i+1,hq,hu=>simp at hq
def RIx (ps qs:List PV):Prop:=∃ (l:List LeM) (c s f m:Int),l.length<=1000000/\ps=[pRow encL l,pI c,pI s,pI f,pI m]/\qs=[pI (lem.idx (isW c f) l)]
theorem fIx:∀ ps q1 q2,RIx ps q1->RIx ps q2->q1=q2:=by
 rintro ps q1 q2 ⟨l,c,s,f,m,_,rfl,rfl⟩ ⟨l',c',s',f',m',_,h,rfl⟩
 simp only [List.cons.injEq,PV.v.injEq,Value.int.injEq,true_and,and_true] at h
 obtain ⟨h,rfl,rfl,rfl,rfl⟩:=h
 rw [fil.pRow_inj Zbq h]
theorem toldIx (k:Nat):ToldG 25 gIx (EIx k) (spec RIx):=by
 intro w FP vs us ps qs hsp hM hul hFP hrd
 obtain ⟨l,c,s,f,m,hl,rfl,rfl⟩:=Zbp hsp
 obtain ⟨v,vs',us',rfl,rfl,ads,cs,vs'',us'',⟨b,c4,ads',cs',h4,hc,rfl,rfl,rfl,rfl⟩,rfl,rfl,rfl,rfl⟩:=hM
 match c4,h4 with
 | [c0,c1,c2,c3],_ =>
  have r0:=Zes (hrd 0 _ v rfl rfl).1
  obtain rfl:=Zch (hrd 1 _ c0 rfl rfl).1
  obtain rfl:=Zch (hrd 3 _ c2 rfl rfl).1
  refine (index_with c f b v l w r0 hl (hc 0 _ rfl) (hc 2 _ rfl)).mono ?_
  rintro e w' ⟨rfl,hE⟩
  refine ⟨[_],fun _=>none,rfl,rfl,Zb0 rfl,fun i q u hq hu w2 _=>?_,rfl,hE⟩
  match i,hq,hu with
  | 0,hq,hu=>simp at hq hu;subst hq;subst hu;simp only [Reads];exact ⟨trivial,rfl⟩
  | i+1,hq,hu=>simp at hq
def RC1 (ps qs:List PV):Prop:=∃ (a:List LeM),a.length<=1000000/\ps=[pRow encL a]/\qs=[pRow encL a]
theorem fC1:∀ ps q1 q2,RC1 ps q1->RC1 ps q2->q1=q2:=by
 rintro ps q1 q2 ⟨a,_,rfl,rfl⟩ ⟨a',_,h,rfl⟩
 exact h
theorem told_cat {G:List GA} {k n:Nat} {R:List PV->List PV->Prop} (hG:G=[.row n]) (hR:∀ ps qs,R ps qs->∃ xss:List (List LeM),xss.length=n/\xss.flatten.length<=1000000/\ps=xss.map (pRow encL)/\qs=[pRow encL xss.flatten]) :
  ToldG 18 G (ECa k) (spec R):=by
 subst hG
 intro w FP vs us ps qs hsp hM hul hFP hrd
 obtain ⟨xss,hn,hl,rfl,rfl⟩:=hR _ _ (Zbp hsp)
 obtain ⟨b,off,cap,cs,vs',us',h1,h2,h3,hc,rfl,rfl,rfl,rfl⟩:=hM
 rw [List.append_nil] at hul hrd
 have hcx:cs.length=xss.length:=by rw [h1,hn]
 have hv:RowV w (.slice (some ⟨b,off,none⟩) n cap) cs:=⟨_,cap,by rw [h1],by omega,h3,fun _=>⟨b,off,rfl,hc⟩⟩
 have hrow:caw.Rows w cs xss:=⟨hcx,fun i v hi=>by
  have hlt:i < xss.length:=by rw [<- hcx];exact (List.getElem?_eq_some_iff.1 hi).1
  have:=Zes (hrd i (pRow encL xss[i]) v (by rw [List.getElem?_map,List.getElem?_eq_getElem hlt];rfl) hi).1
  simpa [List.getD,List.getElem?_eq_getElem hlt] using this⟩
 refine (caw.concat_any _ cs xss w hv hrow hl).mono ?_
 rintro e w' ⟨v,rfl,hown,hE⟩
 refine ⟨[v],fun _=>none,rfl,rfl,Zb0 rfl,fun i q u hq hu w2 hw2=>?_,rfl,hE⟩
 match i,hq,hu with
 | 0,hq,hu =>
  simp at hq hu;subst hq;subst hu
  exact Zec hown fun k hk=>hw2 k (.inr hk) (fun j _=>by simp)
 | i+1,hq,hu=>simp at hq
theorem toldC1 (k:Nat):ToldG 18 gC1 (ECa k) (spec RC1) :=
 told_cat rfl fun ps qs ⟨a,h1,h2,h3⟩=>⟨[a],rfl,by simpa using h1,h2,by simpa using h3⟩
def RC3 (ps qs:List PV):Prop:=∃ (a b c:List LeM),(a++b++c).length<=1000000/\ps=[pRow encL a,pRow encL b,pRow encL c]/\qs=[pRow encL (a++b++c)]
theorem fC3:∀ ps q1 q2,RC3 ps q1->RC3 ps q2->q1=q2:=by
 rintro ps q1 q2 ⟨a,b,c,_,rfl,rfl⟩ ⟨a',b',c',_,h,rfl⟩
 simp only [List.cons.injEq,and_true] at h
 obtain ⟨h1,h2,h3⟩:=h
 rw [fil.pRow_inj Zbq h1,fil.pRow_inj Zbq h2,fil.pRow_inj Zbq h3]
theorem toldC3 (k:Nat):ToldG 18 gC3 (ECa k) (spec RC3) :=
 told_cat rfl fun ps qs ⟨a,b,c,h1,h2,h3⟩=>⟨[a,b,c],rfl,by simpa using h1,h2,by simpa using h3⟩
noncomputable def FW:Fns:=fun k=>match k with | 1=>spec RDw | 2=>spec RIx | 4=>spec RC3 | _=>fun _=>none
theorem FW1 {l:List LeM} {c:Int} (h:l.length<=1000000):FW 1 [pRow encL l,pI c]=some [pRow encL (dropW l c)]:=Zbg fDw ⟨l,c,h,rfl,rfl⟩
theorem FW2 {l:List LeM} {c s f m:Int} (h:l.length<=1000000):FW 2 [pRow encL l,pI c,pI s,pI f,pI m]=some [pI (lem.idx (isW c f) l)]:=Zbg fIx ⟨l,c,s,f,m,h,rfl,rfl⟩
theorem FW4 {a b c:List LeM} (h:(a++b++c).length<=1000000):FW 4 [pRow encL a,pRow encL b,pRow encL c]=some [pRow encL (a++b++c)]:=Zbg fC3 ⟨a,b,c,h,rfl,rfl⟩
theorem w1:ToldF 10 (EDw 1) (FW 1):=Zjj 1
theorem w2:ToldG 25 gIx (EIx 2) (FW 2):=toldIx 2
theorem w4:ToldG 18 gC3 (ECa 4) (FW 4):=toldC3 4
theorem subL (xs:List LeM) (a b:Nat) (h1:a<=b) (h2:b<=xs.length):subPV (pRow encL xs) (pI (a:Int)) (pI (b:Int)) 4=some (pRow encL ((xs.drop a).take (b - a))):=by
 have g1:(a:Int)<=(b:Int):=by omega
 have g2:(b:Int)<=(xs.length:Int):=by omega
 have g3:(0:Int)<=(a:Int):=by omega
 have ha:(encL.all (xs.take a)).length=a * 4:=by rw [Enc.all_length,List.length_take,Nat.min_eq_left (by omega)];rfl
 have e1:(encL.all xs).drop (a * 4)=encL.all (xs.drop a):=by
  conv=>lhs;rw [<- List.take_append_drop a xs,Enc.all_append,<- ha,List.drop_left' rfl]
 have hb:(encL.all ((xs.drop a).take (b - a))).length=(b - a) * 4:=by rw [Enc.all_length,List.length_take,List.length_drop,Nat.min_eq_left (by omega)];rfl
 have e2:(encL.all (xs.drop a)).take ((b - a) * 4)=encL.all ((xs.drop a).take (b - a)):=by
  conv=>lhs;rw [<- List.take_append_drop (b - a) (xs.drop a),Enc.all_append,<- hb,List.take_left' rfl]
 simp only [subPV,pRow,g1,g2,g3,decide_true,Bool.and_self,cond_true,Int.toNat_natCast,<- List.map_drop,<- List.map_take,e1,e2,List.length_take,List.length_drop,Nat.min_eq_left (show b - a<=xs.length - a by omega)]
def RWa (ps qs:List PV):Prop:=∃ (l:List LeM) (x:LeM) (k:Nat),l.length<=999999/\l.findIdx? (isW x.1 x.2.2.1)=some k/\ps=pRow encL l :: p4 x/\qs=[pRow encL (dropW (l.take k) x.1++[x]++dropW (l.drop (k+1)) x.1)]
theorem fWa:∀ ps q1 q2,RWa ps q1->RWa ps q2->q1=q2:=by
 rintro ps q1 q2 ⟨l,x,k,_,h1,rfl,rfl⟩ ⟨l',x',k',_,h2,h,rfl⟩
 simp only [List.cons.injEq] at h
 obtain ⟨h,h3⟩:=h
 obtain rfl:=fil.pRow_inj Zbq h
 obtain rfl:=Zjm h3
 rw [h1] at h2
 cases h2;rfl
theorem one_rowL (x:LeM):PV.row 1 [pI x.1,pI x.2.1,pI x.2.2.1,pI x.2.2.2]=pRow encL [x]:=by simp [pRow,Enc.all,encL]
set_option maxHeartbeats 2000000 in
theorem toldWa (k:Nat):ToldF 17 (EWi k) (spec RWa):=by
 refine Zg1 mixed_ok names_ok FW [.row,.num,.num,.num,.num] ?_
 intro ps qs h _
 obtain ⟨l,x,i,hl,hi,rfl,rfl⟩:=Zbp h
 have hil:i < l.length:=by
  obtain ⟨h,_⟩:=List.findIdx?_eq_some_iff_getElem.1 hi;exact h
 have g2:=FW2 (c:=x.1) (s:=x.2.1) (f:=x.2.2.1) (m:=x.2.2.2) (show l.length<=1000000 by omega)
 rw [show lem.idx (isW x.1 x.2.2.1) l=(i:Int) by simp [lem.idx,hi]] at g2
 have s1:subPV (pRow encL l) (pI 0) (pI (i:Int)) 4=some (pRow encL (l.take i)):=subL l 0 i (by omega) (by omega)
 have s2:subPV (pRow encL l) (pI ((i:Int)+1)) (pI (l.length:Int)) 4=some (pRow encL (l.drop (i+1))):=by
  have:=subL l (i+1) l.length (by omega) (by omega)
  rw [List.take_of_length_le (by rw [List.length_drop];omega)] at this
  exact this
 have g1:=FW1 (l:=l.take i) (c:=x.1) (by rw [List.length_take];omega)
 have g3:=FW1 (l:=l.drop (i+1)) (c:=x.1) (by rw [List.length_drop];omega)
 have d1:=Zhc (l.take i) x.1
 have d2:=Zhc (l.drop (i+1)) x.1
 rw [List.length_take,Nat.min_eq_left (by omega)] at d1
 rw [List.length_drop] at d2
 have g4:=FW4 (a:=dropW (l.take i) x.1) (b:=[x]) (c:=dropW (l.drop (i+1)) x.1) (by simp only [List.length_append,List.length_cons,List.length_nil];omega)
 have v1:IntKind.i64.wrap ((i:Int)+1)=(i:Int)+1:=wrapI _ (by omega) (by omega)
 have o1:=one_rowL x
 rw [List.append_assoc,List.singleton_append] at g4
 generalize dropW (l.take i) x.1=A at *
 generalize dropW (l.drop (i+1)) x.1=B at *
 generalize l.take i=L1 at *
 generalize l.drop (i+1)=L2 at *
 obtain ⟨x0,x1,x2,x3⟩:=x
 simp only [p4] at *
 refine ⟨_,_,_,_,_,_,orcW_ok,wA,fun w FP=>?_,?_⟩
 ·simp [Base.ev,SX.ev,evs,Value.oneCell',g1,g2,g3,g4,w1,w2,w4,s1,s2,o1,v1,binPV,ropPV,Zas]
  exact ⟨⟨0,rfl,by omega,by omega⟩,i+1,rfl,by omega⟩
 ·simp [evs,SX.ev,g1,g2,g3,g4,s1,s2,o1,v1,binPV,ropPV,Zas]
def RWb (ps qs:List PV):Prop:=∃ (l:List LeM) (x:LeM),l.length<=999999/\l.findIdx? (isW x.1 x.2.2.1)=none/\4<=(dropW l x.1).length/\ps=pRow encL l :: p4 x/\qs=[pI (0+1:Nat)]
theorem fWb:∀ ps q1 q2,RWb ps q1->RWb ps q2->q1=q2:=by
 rintro ps q1 q2 ⟨_,_,_,_,_,_,rfl⟩ ⟨_,_,_,_,_,_,rfl⟩;rfl
theorem toldWb (k:Nat):ToldX 17 (EWi k) [pvW] (spec RWb):=by
 refine told_byX FW _ (Zgu Try.prog 17) Try.func17 (by kernel_rfl) shW (by kernel_rfl) ?_ ?_
 ·intro ps qs h
  obtain ⟨l,x,_,_,_,rfl,rfl⟩:=Zbp h
  exact Zhn rfl
 ·intro C ps qs hF h a w hsh
  obtain ⟨l,x,hl,hi,h4,rfl,rfl⟩:=Zbp h
  have g2:=FW2 (c:=x.1) (s:=x.2.1) (f:=x.2.2.1) (m:=x.2.2.2) (show l.length<=1000000 by omega)
  rw [show lem.idx (isW x.1 x.2.2.1) l=-1 by simp [lem.idx,hi]] at g2
  have g1:=FW1 (l:=l) (c:=x.1) (by omega)
  have d1:=Zhc l x.1
  generalize dropW l x.1=A at *
  obtain ⟨x0,x1,x2,x3⟩:=x
  simp only [p4] at *
  show wpL Try.prog flW _ a w
  rw [<- List.append_nil flW]
  refine Zar names_ok mixed_ok orcW_ok wB hsh ?_ ?_
  ·simp [Base.ev,SX.ev,evs,Value.oneCell',hF,g1,g2,w1,w2,binPV,Zas]
   all_goals omega
  ·intro qs a2 w2 hq h2
   exact ⟨nofun,fun _=>.inr ⟨0,_,_,_,rfl,rfl,rfl,h2⟩⟩
def putQ (l:List LeM) (x:LeM):List PV:=match putL l x with | some r=>[pI 0,pRow encL r] | none=>[pI (0+1:Nat)]
def RWi (ps qs:List PV):Prop:=∃ (l:List LeM) (x:LeM),l.length<=999999/\ps=pRow encL l :: p4 x/\qs=putQ l x
theorem fWi:∀ ps q1 q2,RWi ps q1->RWi ps q2->q1=q2:=by
 rintro ps q1 q2 ⟨l,x,_,rfl,rfl⟩ ⟨l',x',_,h,rfl⟩
 simp only [List.cons.injEq] at h
 obtain ⟨h,h3⟩:=h
 obtain rfl:=fil.pRow_inj Zbq h
 obtain rfl:=Zjm h3
 rfl
theorem toldWi (k:Nat):ToldX 17 (EWi k) [pvW] (spec RWi):=by
 intro w FP us ps qs hsp hul hpl hFP hrd
 obtain ⟨l,x,hl,rfl,rfl⟩:=Zbp hsp
 cases hi:l.findIdx? (isW x.1 x.2.2.1) with
 | some i =>
  have hp:putQ l x=[pI 0,pRow encL (dropW (l.take i) x.1++[x]++dropW (l.drop (i+1)) x.1)]:=by simp only [putQ,putL,hi]
  rw [hp]
  refine (toldWa k w FP us _ _ (Zbg fWa ⟨l,x,i,hl,hi,rfl,rfl⟩) hul hpl hFP hrd).mono ?_
  intro e w' h
  exact .inl ⟨_,rfl,h⟩
 | none =>
  by_cases h4:(dropW l x.1).length < 4
  ·have hp:putQ l x=[pI 0,pRow encL (dropW l x.1++[x])]:=by simp only [putQ,putL,hi,h4,if_true]
   rw [hp]
   obtain ⟨u0,u1,u2,u3,u4,rfl⟩:∃ u0 u1 u2 u3 u4,us=[u0,u1,u2,u3,u4]:=by
    match us,hul with
    | [a,b,c,d,e],_=>exact ⟨a,b,c,d,e,rfl⟩
   have r0:=Zes (hrd 0 _ u0 rfl rfl).1
   obtain rfl:=Zch (hrd 1 (pI x.1) u1 rfl rfl).1
   obtain rfl:=Zch (hrd 2 (pI x.2.1) u2 rfl rfl).1
   obtain rfl:=Zch (hrd 3 (pI x.2.2.1) u3 rfl rfl).1
   obtain rfl:=Zch (hrd 4 (pI x.2.2.2) u4 rfl rfl).1
   refine (with_out x u0 l w r0 (by omega) (by simp [lem.idx,hi]) h4).mono ?_
   rintro e w' ⟨v,rfl,hown,hE⟩
   refine .inl ⟨_,rfl,[v],fun _=>none,rfl,rfl,Zb0 rfl,fun i q u hq hu w2 hw2=>?_,rfl,hE⟩
   match i,hq,hu with
   | 0,hq,hu =>
    simp only [List.getElem?_cons_zero,Option.some.injEq] at hq hu;subst hq;subst hu
    exact Zec hown fun k hk=>hw2 k (.inr hk) (fun j _=>by simp)
   | i+1,hq,hu=>simp at hq
  ·have hp:putQ l x=[pI (0+1:Nat)]:=by simp only [putQ,putL,hi,h4,if_false]
   rw [hp]
   exact toldWb k w FP us _ _ (Zbg fWb ⟨l,x,hl,hi,by omega,rfl,rfl⟩) hul hpl hFP hrd
end Go.Proofs.Ytaondjmimobnbaa.wto
end
section
/- Texts joined. -/
section
/- Package line, told: Put, first, Ahead. -/
namespace Go.Proofs.Ytaondjmimobnbaa.wpu
open Go Go.RowKit eng SX Fact fil lem lea leb wdr wwi wto wlm
set_option linter.unusedVariables false
set_option linter.unusedSimpArgs false
set_option maxRecDepth 1000000
def EPu (k:Nat):FnE:={ k:=k,ins:=[none,some 4],leaks:=[false,false,false,false,false],outs:=[none,none],kinds:=[.row,.num] }
def EFi (k:Nat):FnE:={ k:=k,ins:=[none,none],leaks:=[false,false],outs:=[some 4],kinds:=[.num,.num,.num,.num] }
def EAh (k:Nat):FnE:={ k:=k,ins:=[none,none,none],leaks:=[false,false,false],outs:=[none],kinds:=[.num] }
def tabX (f:FuncId):Option (FnE × List Value):=cond (Nat.beq f 17) (some (EWi 5,[pvW])) none
def orcP:Orc:=orcOr (orcX tabX) (orcG tabG)
def wbox:BoxT:=⟨24,0,false,[.leaf,.leaf,.leaf,.leaf],none,false⟩
noncomputable def flF:=flat (Zgu Try.prog 23)
noncomputable def lpF:=flat (Zbf (nth flF 2))
def shF:Shape:=⟨[(0,.leaf),(1,.leaf)],[],[some false,none],20,23⟩
def shFl:Shape:=⟨[(1,.leaf),(4,.ptr 0 0 0 0),(7,.leaf),(8,.leaf),(9,.leaf)],[wbox],[none,some false,none,none,none,none,none,none],20,23⟩
def shFR:Shape:=⟨[(4,.ptr 0 0 0 0)],[wbox],[none,none,none,none],20,23⟩
def shFP:Shape:=⟨[],[],[],20,23⟩
def pvFi:Value:=(.iface 9 (.string { data:={ toList:=[UInt8.ofNat 108,UInt8.ofNat 105,UInt8.ofNat 110,UInt8.ofNat 101,UInt8.ofNat 58,UInt8.ofNat 32,UInt8.ofNat 110,UInt8.ofNat 111,UInt8.ofNat 98,UInt8.ofNat 111,UInt8.ofNat 100,UInt8.ofNat 121,UInt8.ofNat 32,UInt8.ofNat 119,UInt8.ofNat 97,UInt8.ofNat 105,UInt8.ofNat 116,UInt8.ofNat 115,UInt8.ofNat 32,UInt8.ofNat 102,UInt8.ofNat 111,UInt8.ofNat 114,UInt8.ofNat 32,UInt8.ofNat 105,UInt8.ofNat 116] } }))
@[simp] def zWpu1:SX:=.cell (.var 1) (.var 3) 4 2
@[simp] def zWpu2:List SX:=[.var 0,.var 1,.var 2,.var 3,.var 4]
@[simp] def zWpu3:SX:=.con (.int .i64 0)
@[simp] def zWpu4:SX:=.bin .lss (.var 3) (.var 2)
@[simp] def zWpu5:SX:=.bin .add (.var 3) (.con (.int .i64 1))
@[simp] def zWpu6:SX:=.cell (.var 1) (.var 3) 4 0
@[simp] def zWpu7:SX:=.cell (.var 1) (.var 3) 4 1
@[simp] def zWpu8:SX:=.cell (.var 1) (.var 3) 4 3
@[simp] def zWpu9:Fact:=.idx (.var 1) (.var 3) 4 4
@[simp] def Zig:SX:=.bin .eql zWpu1 (.var 0)
theorem p1:runTo Try.prog orcP 10000 8 (EPu 1) [.row,.num,.num,.num,.num] [0]=some ([.ok (.var 1),.ok (.var 2),.ok (.var 3),.ok (.var 4),Fact.fx 17 (EWi 5) ([pvW]) zWpu2,.is (.fn 5 zWpu2 0) (.int .i64 0)],[.fn 5 zWpu2 1,.con (.bool true)]):=by kernel_rfl
theorem p0:runTo Try.prog orcP 10000 8 (EPu 1) [.row,.num,.num,.num,.num] [1]=some ([.ok (.var 1),.ok (.var 2),.ok (.var 3),.ok (.var 4),Fact.fx 17 (EWi 5) ([pvW]) zWpu2,.is (.fn 5 zWpu2 0) (.int .i64 1),Fact.fg 18 gC1 (ECa 3) [.var 0]],[.fn 3 [.var 0] 0,.con (.bool false)]):=by kernel_rfl
theorem preF:segTo Try.prog fil.noOrc 10000 (flF.take 2) shF [] shFl [(1,0)]=some (.normal,[.ok (.len (.var 0)),.ok (.var 1),.ok (.len (.var 0)),.ok zWpu3,.ok zWpu3,.ok zWpu3,.ok zWpu3,.ok zWpu3],[.var 1,.var 0,.len (.var 0),zWpu3,zWpu3,zWpu3,zWpu3,zWpu3]):=by kernel_rfl
theorem exF:segTo Try.prog fil.noOrc 10000 lpF shFl [0] shFP []=some (.exit 0,[.ok zWpu4,.is zWpu4 (.bool false)],[]):=by kernel_rfl
theorem on0:segTo Try.prog fil.noOrc 10000 lpF shFl [1,0] shFl [(0,0)]=some (.normal,[.ok zWpu4,.is zWpu4 (.bool true),zWpu9,zWpu9,.ok zWpu6,.ok zWpu7,.ok zWpu1,.ok zWpu8,.ok Zig,.is Zig (.bool false),.ok zWpu5,.ok (.var 0),.ok (.var 2),.ok zWpu5,.ok (.var 4),.ok (.var 5),.ok (.var 6),.ok (.var 7)],[.var 0,.var 1,.var 2,zWpu5,.var 4,.var 5,.var 6,.var 7]):=by kernel_rfl
theorem runF:segTo Try.prog fil.noOrc 10000 lpF shFl [1,1] shFR [(0,0)]=some (.ret,[.ok zWpu4,.is zWpu4 (.bool true),zWpu9,zWpu9,.ok zWpu6,.ok zWpu7,.ok zWpu1,.ok zWpu8,.ok Zig,.is Zig (.bool true),.ok zWpu6,.ok zWpu7,.ok zWpu1,.ok zWpu8],[zWpu6,zWpu7,zWpu1,zWpu8]):=by kernel_rfl
theorem postF:segTo Try.prog fil.noOrc 10000 (flF.drop 3) shFP [] shFP []=some (.panic pvFi,[],[]):=by kernel_rfl
theorem Zh7:OrcOk Try.prog orcP:=orcOr_ok (Zg7 _) (orcG_ok _)
@[simp] theorem kPu (k:Nat):(EPu k).k=k:=rfl
@[simp] theorem kFi (k:Nat):(EFi k).k=k:=rfl
@[simp] theorem kAh (k:Nat):(EAh k).k=k:=rfl
noncomputable def FP:Fns:=fun k=>match k with | 3=>spec RC1 | 5=>spec RWi | _=>fun _=>none
theorem FP3 {l:List LeM} (h:l.length<=1000000):FP 3 [pRow encL l]=some [pRow encL l]:=Zbg fC1 ⟨l,h,rfl,rfl⟩
theorem FP5 {l:List LeM} {x:LeM} (h:l.length<=999999):FP 5 [pRow encL l,pI x.1,pI x.2.1,pI x.2.2.1,pI x.2.2.2]=some (putQ l x):=Zbg fWi ⟨l,x,h,rfl,rfl⟩
theorem x3:ToldG 18 gC1 (ECa 3) (FP 3):=toldC1 3
theorem x5:ToldX 17 (EWi 5) [pvW] (FP 5):=toldWi 5
def RPu (ps qs:List PV):Prop:=∃ (l:List LeM) (x:LeM),l.length<=999999/\ps=pRow encL l :: p4 x/\qs=[pRow encL (putB l x).1,pB (putB l x).2]
theorem fPu:∀ ps q1 q2,RPu ps q1->RPu ps q2->q1=q2:=by
 rintro ps q1 q2 ⟨l,x,_,rfl,rfl⟩ ⟨l',x',_,h,rfl⟩
 simp only [List.cons.injEq] at h
 obtain ⟨h,h3⟩:=h
 obtain rfl:=fil.pRow_inj Zbq h
 obtain rfl:=Zjm h3
 rfl
theorem toldPu (k:Nat):ToldF 8 (EPu k) (spec RPu):=by
 refine Zg1 mixed_ok names_ok FP [.row,.num,.num,.num,.num] ?_
 intro ps qs h _
 obtain ⟨l,x,hl,rfl,rfl⟩:=Zbp h
 have g5:=FP5 (x:=x) hl
 have g3:=FP3 (l:=l) (by omega)
 cases hp:putL l x with
 | some r =>
  have e1:putB l x=(r,true):=by simp only [putB,hp]
  rw [show putQ l x=[pI 0,pRow encL r] by simp only [putQ,hp]] at g5
  rw [e1]
  obtain ⟨x0,x1,x2,x3⟩:=x
  simp only [p4] at *
  refine ⟨_,_,_,_,_,_,Zh7,p1,fun w FP=>?_,?_⟩
  ·simp [Base.ev,SX.ev,evs,Value.oneCell',g5,x5]
  ·simp [evs,SX.ev,g5]
 | none =>
  have e1:putB l x=(l,false):=by simp only [putB,hp]
  rw [show putQ l x=[pI (0+1:Nat)] by simp only [putQ,hp]] at g5
  rw [e1]
  obtain ⟨x0,x1,x2,x3⟩:=x
  simp only [p4] at *
  refine ⟨_,_,_,_,_,_,Zh7,p0,fun w FP=>?_,?_⟩
  ·simp [Base.ev,SX.ev,evs,Value.oneCell',g5,x5,g3,wpu.x3]
  ·simp [evs,SX.ev,g3]
def Zd8 (l:List LeM) (f:Int):List PV:=match l.find? (isFl f) with | some x=>pI 0 :: p4 x | none=>[pI (0+1:Nat)]
def RFi (ps qs:List PV):Prop:=∃ (l:List LeM) (f:Int),l.length<=1000000/\ps=[pRow encL l,pI f]/\qs=Zd8 l f
theorem fFi:∀ ps q1 q2,RFi ps q1->RFi ps q2->q1=q2:=by
 rintro ps q1 q2 ⟨l,f,_,rfl,rfl⟩ ⟨l',f',_,h,rfl⟩
 simp only [List.cons.injEq,PV.v.injEq,Value.int.injEq,true_and,and_true] at h
 obtain ⟨h,rfl⟩:=h
 rw [fil.pRow_inj Zbq h]
theorem cutF:flF=flF.take 2++.block (Zbi (nth flF 2)) (.loop (Zbf (nth flF 2))) :: flF.drop 3:=by kernel_rfl
set_option maxHeartbeats 1000000 in
theorem toldFi (k:Nat):ToldX 23 (EFi k) [pvFi] (spec RFi):=by
 refine told_byX (fun _ _=>none) _ (Zgu Try.prog 23) Try.func23 (by kernel_rfl) shF (by kernel_rfl) ?_ ?_
 ·intro ps qs h
  obtain ⟨l,f,_,rfl,rfl⟩:=Zbp h
  exact Zhn rfl
 ·intro C ps qs hF h a w hsh
  obtain ⟨l,f,hl,rfl,rfl⟩:=Zbp h
  show wpL Try.prog flF _ a w
  rw [cutF]
  refine Zar names_ok mixed_ok fil.noOrc_ok preF hsh ?_ ?_
  ·simp [Base.ev,SX.ev,evs,Value.oneCell',Zas]
  ·intro qs a1 w1 hq h1
   refine ⟨fun _=>?_,fun h=>absurd rfl h⟩
   simp [evs,SX.ev,Zas] at hq
   subst hq
   refine block_loopX (fun n a w=>∃ i,i<=l.length/\n=l.length - i/\(∀ j (hj:j < l.length),j < i->isFl f l[j]=false)/\Zan C shFl [pI f,pRow encL l,pI (l.length:Int),pI (i:Int),pI 0,pI 0,pI 0,pI 0] a w) ?_ (n:=l.length) ⟨0,by omega,by omega,fun j _ hj=>absurd hj (by omega),h1⟩
   rintro n a w ⟨i,hi,rfl,hb,hin⟩
   show wpL Try.prog lpF _ a w
   rw [<- List.append_nil lpF]
   by_cases hlt:i < l.length
   ·obtain ⟨c0',c1',c2',c3'⟩:=cellL l i hlt
    have ix:=Zfu encL l i 4 4 .i64 rfl hlt (by decide)
    have v3:IntKind.i64.wrap ((i:Int)+1)=(i:Int)+1:=wrapI _ (by omega) (by omega)
    have next:isFl f l[i]=false->∀ j (hj:j < l.length),j < i+1->isFl f l[j]=false:=fun hp j hj hji=>by
     by_cases hje:j=i
     ·subst hje;exact hp
     ·exact hb j hj (by omega)
    by_cases d1:l[i].2.2.1=f
    ·have hp:isFl f l[i]=true:=by simp [isFl,d1]
     have hq0:Zd8 l f=pI 0 :: p4 l[i]:=by simp only [Zd8,find_hit hlt hp hb]
     refine Zar names_ok mixed_ok fil.noOrc_ok runF hin ?_ ?_
     ·simp [Zae,Zab,Base.ev,SX.ev,evs,Value.oneCell',Zas,binPV,c0',c1',c2',c3',ix,v3,hlt,d1]
      all_goals omega
     ·intro qs a1 w1 hq h1
      refine ⟨nofun,fun _=>.inr (.inr (.inl ⟨rfl,.inl ⟨_,hq0,.inr rfl,shFR,qs,[SX.var 0,SX.var 1,SX.var 2,SX.var 3],h1,by kernel_rfl,?_⟩⟩))⟩
      simp [evs,SX.ev,c0',c1',c2',c3'] at hq ⊢
      subst hq
      simp [p4]
    ·have hp:isFl f l[i]=false:=by simp [isFl,d1]
     refine Zar names_ok mixed_ok fil.noOrc_ok on0 hin ?_ ?_
     ·simp [Zae,Zab,Base.ev,SX.ev,evs,Value.oneCell',Zas,binPV,c0',c1',c2',c3',ix,v3,hlt,d1]
      all_goals omega
     ·intro qs a1 w1 hq h1
      refine ⟨fun _=>.inl ⟨rfl,l.length - (i+1),by omega,i+1,by omega,rfl,next hp,?_⟩,fun h=>absurd rfl h⟩
      simp [evs,SX.ev,binPV,v3] at hq
      subst hq
      exact h1
   ·have hie:i=l.length:=by omega
    subst hie
    have hq0:Zd8 l f=[pI (0+1:Nat)]:=by simp only [Zd8,find_miss (fun j hj=>hb j hj hj)]
    refine Zar names_ok mixed_ok fil.noOrc_ok exF hin ?_ ?_
    ·simp [Base.ev,SX.ev,evs,Value.oneCell',binPV]
    ·intro qs a1 w1 hq h1
     refine ⟨nofun,fun _=>.inr (.inl ⟨by rw [show Zbi (nth flF 2)=0 by kernel_rfl];rfl,?_⟩)⟩
     rw [<- List.append_nil (flF.drop 3)]
     refine Zar names_ok mixed_ok fil.noOrc_ok postF h1 (by simp) ?_
     intro qs a2 w2 hq h2
     exact ⟨nofun,fun _=>.inr ⟨0,_,_,_,hq0,rfl,rfl,h2⟩⟩
end Go.Proofs.Ytaondjmimobnbaa.wpu
end
section
/- Texts joined. -/
section
/- Package line, told: Ahead. -/
namespace Go.Proofs.Ytaondjmimobnbaa.wah
open Go Go.RowKit eng SX Fact fil lem lea leb wdr wwi wto wpu wlm
set_option linter.unusedVariables false
set_option linter.unusedSimpArgs false
set_option maxRecDepth 1000000
def tabA (f:FuncId):Option (FnE × List Value):=cond (Nat.beq f 23) (some (EFi 6,[pvFi])) none
@[simp] def zWah1:List SX:=[.var 0,.var 2]
@[simp] def zWah2:SX:=.bin .neq (.fn 6 zWah1 1) (.var 1)
@[simp] def zWah3:Fact:=Fact.fx 23 (EFi 6) ([pvFi]) zWah1
theorem a11:runTo Try.prog (orcX tabA) 10000 13 (EAh 1) [.row,.num,.num] [0,1]=some ([.ok (.var 1),.ok (.var 2),zWah3,.is (.fn 6 zWah1 0) (.int .i64 0),.ok (.fn 6 zWah1 1),.ok (.fn 6 zWah1 2),.ok (.fn 6 zWah1 3),.ok (.fn 6 zWah1 4),.ok zWah2,.is zWah2 (.bool true)],[.con (.bool true)]):=by kernel_rfl
theorem a10:runTo Try.prog (orcX tabA) 10000 13 (EAh 1) [.row,.num,.num] [0,0]=some ([.ok (.var 1),.ok (.var 2),zWah3,.is (.fn 6 zWah1 0) (.int .i64 0),.ok (.fn 6 zWah1 1),.ok (.fn 6 zWah1 2),.ok (.fn 6 zWah1 3),.ok (.fn 6 zWah1 4),.ok zWah2,.is zWah2 (.bool false)],[.con (.bool false)]):=by kernel_rfl
theorem a0:runTo Try.prog (orcX tabA) 10000 13 (EAh 1) [.row,.num,.num] [1]=some ([.ok (.var 1),.ok (.var 2),zWah3,.is (.fn 6 zWah1 0) (.int .i64 1)],[.con (.bool false)]):=by kernel_rfl
noncomputable def FA:Fns:=fun k=>match k with | 6=>spec RFi | _=>fun _=>none
theorem FA6 {l:List LeM} {f:Int} (h:l.length<=1000000):FA 6 [pRow encL l,pI f]=some (Zd8 l f):=Zbg fFi ⟨l,f,h,rfl,rfl⟩
theorem x6:ToldX 23 (EFi 6) [pvFi] (FA 6):=toldFi 6
def RAh (ps qs:List PV):Prop:=∃ (l:List LeM) (c f:Int),l.length<=1000000/\ps=[pRow encL l,pI c,pI f]/\qs=[pB (Zea l c f)]
theorem fAh:∀ ps q1 q2,RAh ps q1->RAh ps q2->q1=q2:=by
 rintro ps q1 q2 ⟨l,c,f,_,rfl,rfl⟩ ⟨l',c',f',_,h,rfl⟩
 simp only [List.cons.injEq,PV.v.injEq,Value.int.injEq,true_and,and_true] at h
 obtain ⟨h,rfl,rfl⟩:=h
 rw [fil.pRow_inj Zbq h]
theorem toldAh (k:Nat):ToldF 13 (EAh k) (spec RAh):=by
 refine Zg1 mixed_ok names_ok FA [.row,.num,.num] ?_
 intro ps qs h _
 obtain ⟨l,c,f,hl,rfl,rfl⟩:=Zbp h
 have g:=FA6 (f:=f) hl
 cases hf:l.find? (isFl f) with
 | some x =>
  rw [show Zd8 l f=pI 0 :: p4 x by simp only [Zd8,hf]] at g
  have e1:Zea l c f=!(x.1 == c):=by simp only [Zea,hf]
  rw [e1]
  obtain ⟨x0,x1,x2,x3⟩:=x
  simp only [p4] at *
  by_cases d:x0=c
  ·refine ⟨_,_,_,_,_,_,Zg7 tabA,a10,fun w FP=>?_,?_⟩
   ·simp [Base.ev,SX.ev,evs,Value.oneCell',g,x6,binPV,d]
   ·simp [evs,SX.ev,d]
  ·refine ⟨_,_,_,_,_,_,Zg7 tabA,a11,fun w FP=>?_,?_⟩
   ·simp [Base.ev,SX.ev,evs,Value.oneCell',g,x6,binPV,d]
   ·simp [evs,SX.ev,d]
 | none =>
  rw [show Zd8 l f=[pI (0+1:Nat)] by simp only [Zd8,hf]] at g
  have e1:Zea l c f=false:=by simp only [Zea,hf]
  rw [e1]
  refine ⟨_,_,_,_,_,_,Zg7 tabA,a0,fun w FP=>?_,?_⟩
  ·simp [Base.ev,SX.ev,evs,Value.oneCell',g,x6]
  ·simp [evs,SX.ev]
end Go.Proofs.Ytaondjmimobnbaa.wah
end
section
/- Texts joined. -/
section
/- Package line, told at rows that are written down. -/
namespace Go.Proofs.Ytaondjmimobnbaa.wli
open Go Go.RowKit eng SX Fact fil lem lea wdr wwi wto wpu wah wlm
set_option linter.unusedVariables false
set_option maxRecDepth 1000000
def decL:List SX->Option (List LeM)
 | []=>some []
 | .con (.int .i64 a) :: .con (.int .i64 b) :: .con (.int .i64 c) :: .con (.int .i64 d) :: r=>(decL r).map ((a,b,c,d) :: ·)
 | _=>none
theorem Zhd:∀ (k:Nat) {es:List SX} {l:List LeM},es.length<=k->decL es=some l->evs0 es=some ((encL.all l).map PV.v)
 | 0,es,l,hk,h=>by
  obtain rfl:es=[]:=List.eq_nil_of_length_eq_zero (by omega)
  simp [decL] at h;subst h;rfl
 | k+1,es,l,hk,h=>by
  unfold decL at h
  split at h
  ·cases h;rfl
  ·rename_i a b c d r
   simp only [Option.map_eq_some_iff] at h
   obtain ⟨l',h1,rfl⟩:=h
   simp [evs0,ev0,Zhd k (es:=r) (by simp at hk;omega) h1,Enc.all_cons,encL]
  ·cases h
def sxL (l:List LeM):SX:=.lit l.length (l.flatMap fun p=>[.con (.int .i64 p.1),.con (.int .i64 p.2.1),.con (.int .i64 p.2.2.1),.con (.int .i64 p.2.2.2)])
theorem Zer (l:List LeM):ev0 (sxL l)=some (pRow encL l):=by
 have:∀ l:List LeM,evs0 (l.flatMap fun p=>[SX.con (.int .i64 p.1),.con (.int .i64 p.2.1),.con (.int .i64 p.2.2.1),.con (.int .i64 p.2.2.2)])=some ((encL.all l).map PV.v):=fun l=>by
  induction l with
  | nil=>rfl
  | cons b l ih=>simp [evs0,ev0,ih,Enc.all_cons,encL]
 simp only [sxL,ev0,this,pRow,Option.map_some]
def EPuT (k:Nat):FnE:={ EPu k with kinds:=[.row,.truth] }
theorem toldPuT (k:Nat):ToldF 8 (EPuT k) (spec RPu):=told_kinds (toldPu k) rfl rfl rfl rfl rfl
def litPu:List SX->Option (List SX)
 | [.lit n xs,.con (.int .i64 a),.con (.int .i64 b),.con (.int .i64 c),.con (.int .i64 d)]=>(decL xs).bind fun l=>cond (Nat.beq l.length n && Nat.ble n 1000) (some [sxL (putB l (a,b,c,d)).1,.con (.bool (putB l (a,b,c,d)).2)]) none
 | _=>none
theorem litPu_ok:LitOk 8 (EPu 1) litPu:=by
 refine ⟨spec RPu,toldPu 1,?_⟩
 intro es rs h
 unfold litPu at h
 split at h
 ·rename_i n xs a b c d
  simp only [Option.bind_eq_some_iff,cond_eq_ite] at h
  obtain ⟨l,h1,h⟩:=h
  split at h
  ·rename_i hc
   simp only [Bool.and_eq_true,Nat.beq_eq,Nat.ble_eq] at hc
   obtain ⟨rfl,h2⟩:=hc
   cases h
   refine ⟨pRow encL l :: p4 (a,b,c,d),[pRow encL (putB l (a,b,c,d)).1,pB (putB l (a,b,c,d)).2],?_,Zbg fPu ⟨l,_,by omega,rfl,rfl⟩,?_⟩
   ·simp [evs0,ev0,Zhd _ (Nat.le_refl _) h1,p4,pRow]
   ·simp [evs0,ev0,Zer]
  ·cases h
 ·cases h
def litDw:List SX->Option (List SX)
 | [.lit n xs,.con (.int .i64 a)]=>(decL xs).bind fun l=>cond (Nat.beq l.length n && Nat.ble n 1000) (some [sxL (dropW l a)]) none
 | _=>none
theorem litDw_ok:LitOk 10 (EDw 2) litDw:=by
 refine ⟨spec RDw,Zjj 2,?_⟩
 intro es rs h
 unfold litDw at h
 split at h
 ·rename_i n xs a
  simp only [Option.bind_eq_some_iff,cond_eq_ite] at h
  obtain ⟨l,h1,h⟩:=h
  split at h
  ·rename_i hc
   simp only [Bool.and_eq_true,Nat.beq_eq,Nat.ble_eq] at hc
   obtain ⟨rfl,h2⟩:=hc
   cases h
   refine ⟨[pRow encL l,pI a],[pRow encL (dropW l a)],?_,Zbg fDw ⟨l,_,by omega,rfl,rfl⟩,?_⟩
   ·simp [evs0,ev0,Zhd _ (Nat.le_refl _) h1,pRow]
   ·simp [evs0,Zer]
  ·cases h
 ·cases h
def litAh:List SX->Option (List SX)
 | [.lit n xs,.con (.int .i64 a),.con (.int .i64 b)]=>(decL xs).bind fun l=>cond (Nat.beq l.length n && Nat.ble n 1000) (some [.con (.bool (Zea l a b))]) none
 | _=>none
theorem litAh_ok:LitOk 13 (EAh 3) litAh:=by
 refine ⟨spec RAh,toldAh 3,?_⟩
 intro es rs h
 unfold litAh at h
 split at h
 ·rename_i n xs a b
  simp only [Option.bind_eq_some_iff,cond_eq_ite] at h
  obtain ⟨l,h1,h⟩:=h
  split at h
  ·rename_i hc
   simp only [Bool.and_eq_true,Nat.beq_eq,Nat.ble_eq] at hc
   obtain ⟨rfl,h2⟩:=hc
   cases h
   refine ⟨[pRow encL l,pI a,pI b],[pB (Zea l a b)],?_,Zbg fAh ⟨l,_,_,by omega,rfl,rfl⟩,?_⟩
   ·simp [evs0,ev0,Zhd _ (Nat.le_refl _) h1,pRow]
   ·simp [evs0,ev0]
  ·cases h
 ·cases h
def tabE (f:FuncId):Option (FnE × (List SX->Option (List SX))):=cond (Nat.beq f 8) (some (EPu 1,litPu)) (cond (Nat.beq f 10) (some (EDw 2,litDw)) (cond (Nat.beq f 13) (some (EAh 3,litAh)) none))
theorem tabE_ok:∀ f E lit,tabE f=some (E,lit)->LitOk f E lit:=by
 intro f E lit h
 simp only [tabE,cond_eq_ite,Nat.beq_eq] at h
 split at h
 ·rename_i hf;subst hf;cases h;exact litPu_ok
 split at h
 ·rename_i hf;subst hf;cases h;exact litDw_ok
 split at h
 ·rename_i hf;subst hf;cases h;exact litAh_ok
 ·cases h
def orcE:Orc:=Zi7 tabE
theorem orcE_ok:OrcOk Try.prog orcE:=orcLit_ok tabE tabE_ok
end Go.Proofs.Ytaondjmimobnbaa.wli
end
section
/- Law 14's begun, by a closed run. -/
namespace Go.Proofs.Ytaondjmimobnbaa.wbg
open Go Go.RowKit eng SX Fact fil wli
set_option linter.unusedVariables false
set_option maxRecDepth 1000000
theorem ranB:Zg9 (runTo Try.prog orcE 100000 7 (ETrue 8) [] [] hStop)=true:=by kernel_rfl
theorem begunLit (k:Nat):ToldF 7 (ETrue 8) (spec RTrue):=told_lit fil.mixed_ok fil.names_ok orcE_ok (fun ps qs h=>Zbp h) ranB
end Go.Proofs.Ytaondjmimobnbaa.wbg
end
end
end
end
end
section
/- LineFirst by the symbolic engine. -/
namespace Go.Proofs.Ytaondjmimobnbaa.lineFirst
open Go Go.RowKit eng SX Fact fil lem lea wlm wdr wwi wto wpu wah wli grd wfm wfi
set_option linter.unusedVariables false
set_option linter.unusedSimpArgs false
set_option maxRecDepth 1000000

def hM (_:FuncId) (o:Oper):Option Hint:=match o.op with
 | .makeMap ..=>some .mp
 | .lookup ..=>some .mp
 | .mapUpdate ..=>some .mp
 | .call { callee:=.builtin .delete,.. }=>some .mp
 | .call { callee:=.builtin .len,args:=#[.tmp 94],.. }=>some .mp
 | .binOp ..=>none
 | .pick ..=>none
 | .move ..=>match o.dst with | some d=>cond (Nat.ble 121 d && Nat.ble d 152) none (some .lazy) | none=>some .lazy
 | .unOp ..=>some .parts
 | _=>some .lazy
def tabL (f:FuncId):Option FnE:=cond (Nat.beq f 8) (some (EPuT 1)) (cond (Nat.beq f 10) (some (EDw 2)) (cond (Nat.beq f 13) (some (EAh 6)) (cond (Nat.beq f 7) (some (ETrue 8)) none)))
noncomputable def flA:=flat (Zgu Try.prog 4)
noncomputable def lpA:=flat (Zbf (nth flA 8))
noncomputable def bdA:=flat (Zc5 (nth lpA 2))
noncomputable def lpC:=flat (Zbf (nth bdA 6))
noncomputable def bdC:=flat (Zc5 (nth lpC 2))
noncomputable def lpF:=flat (Zbf (nth bdC 1))
noncomputable def bdF:=flat (Zc5 (nth lpF 2))
noncomputable def lpB:=flat (Zbf (nth bdF 3))
def mbox (k:Nat):BoxT:=⟨34,0,true,[],some k,false⟩
def pbox:BoxT:=⟨35,0,false,[.leaf,.leaf],none,false⟩
def sh0:Shape:=⟨[(0,.leaf)],[],[some false],159,4⟩
def shA:Shape:=⟨[(0,.leaf),(3,.leaf),(4,.map 0),(5,.leaf)],[mbox 3],[some false,some true,none],159,4⟩
def shC:Shape:=⟨[(0,.leaf),(3,.leaf),(4,.map 0),(5,.leaf),(12,.leaf)],[mbox 4],[some false,some true,none,none],159,4⟩
def shF:Shape:=⟨[(0,.leaf),(3,.leaf),(4,.map 0),(5,.leaf),(12,.leaf),(13,.leaf)],[mbox 5],[some false,some true,none,none,none],159,4⟩
def shB:Shape:=⟨[(0,.leaf),(3,.leaf),(4,.map 0),(5,.leaf),(12,.leaf),(13,.leaf),(14,.leaf),(15,.ptr 1 0 0 0),(16,.leaf),(17,.leaf)],[mbox 10,pbox],[some false,some true,none,none,none,none,none,none,none,none],159,4⟩
def shR:Shape:=⟨[(2,.leaf)],[],[none],159,4⟩
@[simp] def zLfi1:SX:=.bin .add (.con (.int .i64 1)) (.conv .i64 (.bin .rem (.cell (.var 0) (.var 2) 3 1) (.con (.int .u8 3))))
@[simp] def zLfi2:SX:=.bin .add (.con (.int .i64 1)) (.conv .i64 (.bin .rem (.cell (.var 0) (.var 2) 3 2) (.con (.int .u8 2))))
@[simp] def zLfi3:List SX:=[.var 1,zLfi1,.bin .add (.con (.int .i64 1)) (.var 2),zLfi2,.con (.int .i64 1)]
@[simp] def zLfi4:SX:=.bin .add (.var 7) (.con (.int .i64 1))
@[simp] def zLfi5:SX:=.bin .eql (rop (ROp.part 0) [rop (ROp.mget z2) [.var 10,.var 7]]) (.var 4)
@[simp] def zLfi6:SX:=.bin .gtr (.bin .rem (.cell (.var 0) (.var 2) 3 0) (.con (.int .u8 4))) (.con (.int .u8 0))
@[simp] def zLfi7:SX:=.bin .leq (.var 7) (.con (.int .i64 3))
@[simp] def zLfi8:SX:=.bin .rem (.cell (.var 0) (.var 2) 3 1) (.con (.int .u8 3))
@[simp] def zLfi9:SX:=.bin .rem (.cell (.var 0) (.var 2) 3 2) (.con (.int .u8 2))
@[simp] def Zb7:Fact:=.idx (.var 0) (.var 2) 3 3
@[simp] def Zi0:SX:=.bin .neq (.len (.fn 1 zLfi3 0)) (.len (rop ROp.mput [.var 3,zLfi1,rop ROp.pack [zLfi2,.var 2]]))
@[simp] def Ziz:List SX:=[.var 0,.var 1,.var 2,.var 3,.var 4,.con (.bool false),.var 6,zLfi4,.var 8,.var 9,.var 10]
@[simp] def Ziy:List SX:=[.var 0,.var 1,.var 2,.var 3,.var 4,.con (.bool true),.var 6,zLfi4,.var 8,.var 9,.var 10]
@[simp] def Zbj:SX:=.con (.int .i64 1)
@[simp] def Zeo:SX:=.bin .neq (.var 7) (.var 3)
@[simp] def Zix:SX:=.bin .lss (rop (ROp.part 1) [rop (ROp.mget z2) [.var 10,.var 7]]) (.var 9)
@[simp] def Ziw:SX:=.bin .neq (rop (ROp.part 0) [rop (ROp.mget z2) [.var 3,zLfi1]]) zLfi2
@[simp] def Zgn:SX:=rop ROp.notB [rop ROp.mhas [.var 3,zLfi1]]
@[simp] def Ziv:Fact:=.ok (.bin .rem (.cell (.var 0) (.var 2) 3 0) (.con (.int .u8 4)))
@[simp] def Zhl:Fact:=.is (rop ROp.mhas [.var 10,.var 7]) (.bool true)
@[simp] def Za9:Fact:=.ok (.var 2)
@[simp] def Zfm:Fact:=upto (.var 7) 4294967296
@[simp] def Ziu:SX:=.bin .gtr (.len (.var 0)) (.con (.int .i64 30))
@[simp] def Zfy:Fact:=.is (.var 5) (.bool false)
@[simp] def Zfl:Fact:=.is zLfi7 (.bool true)
@[simp] def Zgm:SX:=.bin .neq (.var 8) (.var 4)
@[simp] def Zit:SX:=.bin .leq (.var 3) (.con (.int .i64 3))
@[simp] def Zis:SX:=.bin .leq (.var 4) (.con (.int .i64 2))
@[simp] def Zbx:Fact:=.ok (.var 3)
@[simp] def zLfi30:List SX:=[.var 0,.fn 1 zLfi3 0,.var 2,Zbj,rop ROp.mput [.var 3,zLfi1,rop ROp.pack [zLfi2,.var 2]]]
@[simp] def Zgl:Fact:=.ok (.con (.bool true))
@[simp] def Zgk:Fact:=.is Zeo (.bool true)
@[simp] def Zir:SX:=.bin .lss (.var 2) (.len (.var 0))
@[simp] def Ziq:SX:=rop (ROp.mget z2) [.var 5,.var 3]
@[simp] def Zip:Fact:=.ok (.cell (.var 0) (.var 2) 3 1)
@[simp] def Zio:Fact:=.ok (.cell (.var 0) (.var 2) 3 2)
@[simp] def Zin:Fact:=.ok (.cell (.var 0) (.var 2) 3 0)
@[simp] def Zgj:Fact:=upto zLfi1 4294967296
@[simp] def zLfi39:SX:=.bin .neq (.len (.fn 2 [.var 1,zLfi1] 0)) (.len (rop ROp.mdel [.var 3,zLfi1]))
@[simp] def Zc1:Fact:=.ok (.var 4)
@[simp] def Zhk:Fact:=.ok (.con (.bool false))
@[simp] def Zim:Fact:=.idx (.var 0) (.var 2) 3 2
@[simp] def Zil:Fact:=.idx (.var 0) (.var 2) 3 1
@[simp] def Zhj:SX:=.len (.fn 1 zLfi3 0)
@[simp] def Zik:List SX:=[.var 1,.var 3,.var 4]
@[simp] def Zjh:Fact:=.is (.fn 1 zLfi3 1) (.bool true)
@[simp] def Zjg:Fact:=.ok (.bin .add Zbj (.var 2))
@[simp] def Zij:Fact:=.ok (.conv .i64 zLfi8)
@[simp] def Zii:Fact:=.ok (.conv .i64 zLfi9)
@[simp] def Zen:Fact:=.ok (.var 6)
@[simp] def Zem:Fact:=.ok (.var 8)
@[simp] def Zel:Fact:=.ok (.var 9)
@[simp] def Zih:Fact:=.is zLfi5 (.bool true)
theorem q1:segTo Try.prog (orcFn tabL) 10000 flA sh0 [1,1] shR [] hM=some (.ret,[.fn 7 (ETrue 8) [],.is (.fn 8 [] 0) (.bool true),.ok (.len (.var 0)),.ok Ziu,.is Ziu (.bool true),Zgl],[.con (.bool true)]):=by kernel_rfl
theorem pre:segTo Try.prog (orcFn tabL) 10000 (flA.take 8) sh0 [1,0] shA [(1,0)] hM=some (.normal,[.fn 7 (ETrue 8) [],.is (.fn 8 [] 0) (.bool true),.ok (.len (.var 0)),.ok Ziu,.is Ziu (.bool false),.ok (.con (.int .i64 0))],[.var 0,.lit 0 [],.con (.int .i64 0),.lit 0 []]):=by kernel_rfl
theorem hd:segTo Try.prog (orcFn tabL) 10000 (lpA.take 2) shA [1] shA [(0,0)] hM=some (.normal,[.ok (.len (.var 0)),.ok Zir,.is Zir (.bool true),Za9],[.var 0,.var 1,.var 2,.var 3]):=by kernel_rfl
theorem ex:segTo Try.prog (orcFn tabL) 10000 lpA shA [0] shA [(0,0)] hM=some (.exit 0,[.ok (.len (.var 0)),.ok Zir,.is Zir (.bool false),Za9],[.var 0,.var 1,.var 2,.var 3]):=by kernel_rfl
theorem pN:segTo Try.prog (orcFn tabL) 10000 (bdA.take 6) shA [1,1,1,0] shC [(0,0)] hM=some (.normal,[Zb7,Zim,Zip,.ok zLfi8,Zij,.ok zLfi1,Zb7,Zb7,Zio,.ok zLfi9,Zii,.ok zLfi2,Zb7,Zil,Zin,Ziv,.ok zLfi6,.is zLfi6 (.bool true),Zjg,.fn 8 (EPuT 1) zLfi3,Zjh,Zgj,.ok Zgn,.is Zgn (.bool true),Zgj,.ok Zhj,.ok Zi0,.is Zi0 (.bool false),Za9,.ok Zbj],zLfi30):=by kernel_rfl
theorem pD:segTo Try.prog (orcFn tabL) 10000 (bdA.take 6) shA [1,1,0,1,0] shC [(0,0)] hM=some (.normal,[Zb7,Zim,Zip,.ok zLfi8,Zij,.ok zLfi1,Zb7,Zb7,Zio,.ok zLfi9,Zii,.ok zLfi2,Zb7,Zil,Zin,Ziv,.ok zLfi6,.is zLfi6 (.bool true),Zjg,.fn 8 (EPuT 1) zLfi3,Zjh,Zgj,.ok Zgn,.is Zgn (.bool false),.ok Ziw,.is Ziw (.bool true),Zgj,.ok Zhj,.ok Zi0,.is Zi0 (.bool false),Za9,.ok Zbj],zLfi30):=by kernel_rfl
theorem pS:segTo Try.prog (orcFn tabL) 10000 (bdA.take 6) shA [1,1,0,0,0] shC [(0,0)] hM=some (.normal,[Zb7,Zim,Zip,.ok zLfi8,Zij,.ok zLfi1,Zb7,Zb7,Zio,.ok zLfi9,Zii,.ok zLfi2,Zb7,Zil,Zin,Ziv,.ok zLfi6,.is zLfi6 (.bool true),Zjg,.fn 8 (EPuT 1) zLfi3,Zjh,Zgj,.ok Zgn,.is Zgn (.bool false),.ok Ziw,.is Ziw (.bool false),.ok Zhj,.ok (.bin .neq Zhj (.len (.var 3))),.is (.bin .neq Zhj (.len (.var 3))) (.bool false),Za9,.ok Zbj],[.var 0,.fn 1 zLfi3 0,.var 2,Zbj,.var 3]):=by kernel_rfl
theorem dl:segTo Try.prog (orcFn tabL) 10000 (bdA.take 6) shA [0,0] shC [(0,0)] hM=some (.normal,[Zb7,Zim,Zip,.ok zLfi8,Zij,.ok zLfi1,Zb7,Zb7,Zio,.ok zLfi9,Zii,.ok zLfi2,Zb7,Zil,Zin,Ziv,.ok zLfi6,.is zLfi6 (.bool false),.fn 10 (EDw 2) [.var 1,zLfi1],Zgj,.ok (.len (.fn 2 [.var 1,zLfi1] 0)),.ok zLfi39,.is zLfi39 (.bool false),Za9,.ok Zbj],[.var 0,.fn 2 [.var 1,zLfi1] 0,.var 2,Zbj,rop ROp.mdel [.var 3,zLfi1]]):=by kernel_rfl
theorem c0:segTo Try.prog (orcFn tabL) 10000 (lpC.take 2) shC [1] shC [(0,0)] hM=some (.normal,[.ok Zit,.is Zit (.bool true),Za9,Zbx],[.var 0,.var 1,.var 2,.var 3,.var 4]):=by kernel_rfl
theorem cex:segTo Try.prog (orcFn tabL) 10000 lpC shC [0] shC [(0,0)] hM=some (.exit 2,[.ok Zit,.is Zit (.bool false),Za9,Zbx],[.var 0,.var 1,.var 2,.var 3,.var 4]):=by kernel_rfl
theorem c1:segTo Try.prog (orcFn tabL) 10000 (bdC.take 1) shC [] shF [(0,0)] hM=some (.normal,[Za9,Zbx,.ok Zbj],[.var 0,.var 1,.var 2,.var 3,Zbj,.var 4]):=by kernel_rfl
theorem f0:segTo Try.prog (orcFn tabL) 10000 (lpF.take 2) shF [1] shF [(0,0)] hM=some (.normal,[.ok Zis,.is Zis (.bool true),Za9,Zbx,Zc1],[.var 0,.var 1,.var 2,.var 3,.var 4,.var 5]):=by kernel_rfl
theorem fex:segTo Try.prog (orcFn tabL) 10000 lpF shF [0] shF [(0,0)] hM=some (.exit 4,[.ok Zis,.is Zis (.bool false),Za9,Zbx,Zc1],[.var 0,.var 1,.var 2,.var 3,.var 4,.var 5]):=by kernel_rfl
theorem f1:segTo Try.prog (orcFn tabL) 10000 (bdF.take 3) shF [] shB [(0,0),(3,0)] hM=some (.normal,[upto (.var 3) 4294967296,Za9,Zbx,Zc1,Zhk,.ok (rop ROp.mhas [.var 5,.var 3]),.ok Zbj,.ok (rop (ROp.part 0) [Ziq]),.ok (rop (ROp.part 1) [Ziq])],[.var 0,.var 1,.var 2,.var 3,.var 4,.con (.bool false),rop ROp.mhas [.var 5,.var 3],Zbj,rop (ROp.part 0) [Ziq],rop (ROp.part 1) [Ziq],.var 5]):=by kernel_rfl
theorem bex:segTo Try.prog (orcFn tabL) 10000 lpB shB [0] shB [(0,0),(1,0)] hM=some (.exit 6,[.ok zLfi7,.is zLfi7 (.bool false),Za9,Zbx,Zc1,.ok (.var 5),Zen,.ok (.var 7),Zem,Zel],[.var 0,.var 1,.var 2,.var 3,.var 4,.var 5,.var 6,.var 7,.var 8,.var 9,.var 10]):=by kernel_rfl
theorem b1:segTo Try.prog (orcFn tabL) 10000 lpB shB [1,1] shB [(0,0),(1,0)] hM=some (.normal,[.ok zLfi7,Zfl,Zfm,.is (.var 5) (.bool true),.ok zLfi4,Za9,Zbx,Zc1,Zgl,Zen,.ok zLfi4,Zem,Zel],Ziy):=by kernel_rfl
theorem b2':segTo Try.prog (orcFn tabL) 10000 lpB shB [1,0,0] shB [(0,0),(1,0)] hM=some (.normal,[.ok zLfi7,Zfl,Zfm,Zfy,.ok Zeo,.is Zeo (.bool false),.ok zLfi4,Za9,Zbx,Zc1,Zhk,Zen,.ok zLfi4,Zem,Zel],Ziz):=by kernel_rfl
theorem b3:segTo Try.prog (orcFn tabL) 10000 lpB shB [1,0,1,0] shB [(0,0),(1,0)] hM=some (.normal,[.ok zLfi7,Zfl,Zfm,Zfy,.ok Zeo,Zgk,.is (rop ROp.mhas [.var 10,.var 7]) (.bool false),.ok zLfi4,Za9,Zbx,Zc1,Zhk,Zen,.ok zLfi4,Zem,Zel],Ziz):=by kernel_rfl
theorem b4:segTo Try.prog (orcFn tabL) 10000 lpB shB [1,0,1,1,0] shB [(0,0),(1,0)] hM=some (.normal,[.ok zLfi7,Zfl,Zfm,Zfy,.ok Zeo,Zgk,Zhl,.ok zLfi5,.is zLfi5 (.bool false),.ok zLfi4,Za9,Zbx,Zc1,Zhk,Zen,.ok zLfi4,Zem,Zel],Ziz):=by kernel_rfl
theorem b5:segTo Try.prog (orcFn tabL) 10000 lpB shB [1,0,1,1,1,0] shB [(0,0),(1,0)] hM=some (.normal,[.ok zLfi7,Zfl,Zfm,Zfy,.ok Zeo,Zgk,Zhl,.ok zLfi5,Zih,.is (.var 6) (.bool false),.ok zLfi4,Za9,Zbx,Zc1,Zgl,Zen,.ok zLfi4,Zem,Zel],Ziy):=by kernel_rfl
theorem b6:segTo Try.prog (orcFn tabL) 10000 lpB shB [1,0,1,1,1,1,1] shB [(0,0),(1,0)] hM=some (.normal,[.ok zLfi7,Zfl,Zfm,Zfy,.ok Zeo,Zgk,Zhl,.ok zLfi5,Zih,.is (.var 6) (.bool true),.ok Zgm,.is Zgm (.bool true),.ok zLfi4,Za9,Zbx,Zc1,Zgl,Zen,.ok zLfi4,Zem,Zel],Ziy):=by kernel_rfl
theorem b7:segTo Try.prog (orcFn tabL) 10000 lpB shB [1,0,1,1,1,1,0,1] shB [(0,0),(1,0)] hM=some (.normal,[.ok zLfi7,Zfl,Zfm,Zfy,.ok Zeo,Zgk,Zhl,.ok zLfi5,Zih,.is (.var 6) (.bool true),.ok Zgm,.is Zgm (.bool false),.ok Zix,.is Zix (.bool true),.ok zLfi4,Za9,Zbx,Zc1,Zgl,Zen,.ok zLfi4,Zem,Zel],Ziy):=by kernel_rfl
theorem b8:segTo Try.prog (orcFn tabL) 10000 lpB shB [1,0,1,1,1,1,0,0] shB [(0,0),(1,0)] hM=some (.normal,[.ok zLfi7,Zfl,Zfm,Zfy,.ok Zeo,Zgk,Zhl,.ok zLfi5,Zih,.is (.var 6) (.bool true),.ok Zgm,.is Zgm (.bool false),.ok Zix,.is Zix (.bool false),.ok zLfi4,Za9,Zbx,Zc1,Zhk,Zen,.ok zLfi4,Zem,Zel],Ziz):=by kernel_rfl
theorem fend:segTo Try.prog (orcFn tabL) 10000 (bdF.drop 4) shB [0] shF [(0,0)] hM=some (.normal,[.fn 13 (EAh 6) Zik,.ok (.fn 6 Zik 0),.ok (rop ROp.neB [.fn 6 Zik 0,.var 5]),.is (rop ROp.neB [.fn 6 Zik 0,.var 5]) (.bool false),Za9,Zbx,Zc1],[.var 0,.var 1,.var 2,.var 3,.var 4,.var 10]):=by kernel_rfl
theorem fst:segTo Try.prog (orcFn tabL) 10000 (lpF.drop 3) shF [] shF [(0,0)] hM=some (.normal,[.ok (.bin .add (.var 4) Zbj),Za9,Zbx,.ok (.bin .add (.var 4) Zbj)],[.var 0,.var 1,.var 2,.var 3,.bin .add (.var 4) Zbj,.var 5]):=by kernel_rfl
theorem cst:segTo Try.prog (orcFn tabL) 10000 (lpC.drop 3) shF [] shC [(0,0)] hM=some (.normal,[.ok (.bin .add (.var 3) Zbj),Za9,.ok (.bin .add (.var 3) Zbj)],[.var 0,.var 1,.var 2,.bin .add (.var 3) Zbj,.var 5]):=by kernel_rfl
theorem ast:segTo Try.prog (orcFn tabL) 10000 (lpA.drop 3) shC [] shA [(0,0)] hM=some (.normal,[.ok (.bin .add (.var 2) Zbj),.ok (.bin .add (.var 2) Zbj)],[.var 0,.var 1,.bin .add (.var 2) Zbj,.var 4]):=by kernel_rfl
theorem post:segTo Try.prog (orcFn tabL) 10000 (flA.drop 9) shA [] shR [] hM=some (.ret,[Zgl],[.con (.bool true)]):=by kernel_rfl
theorem pos3:0 < 3:=by decide
abbrev E3:=encK 3 pos3
theorem cutA:flA=flA.take 8++.block (Zbi (nth flA 8)) (.loop (Zbf (nth flA 8))) :: flA.drop 9:=by kernel_rfl
theorem cutL:lpA=lpA.take 2++.block (Zbi (nth lpA 2)) (Zc5 (nth lpA 2)) :: lpA.drop 3:=by kernel_rfl
theorem cutB:bdA=bdA.take 6++.block (Zbi (nth bdA 6)) (.loop (Zbf (nth bdA 6))) :: []:=by kernel_rfl
theorem cutC:lpC=lpC.take 2++.block (Zbi (nth lpC 2)) (Zc5 (nth lpC 2)) :: lpC.drop 3:=by kernel_rfl
theorem cutD:bdC=bdC.take 1++.block (Zbi (nth bdC 1)) (.loop (Zbf (nth bdC 1))) :: []:=by kernel_rfl
theorem cutF:lpF=lpF.take 2++.block (Zbi (nth lpF 2)) (Zc5 (nth lpF 2)) :: lpF.drop 3:=by kernel_rfl
theorem cutG:bdF=bdF.take 3++.block (Zbi (nth bdF 3)) (.loop (Zbf (nth bdF 3))) :: bdF.drop 4:=by kernel_rfl
def ELaw (k:Nat):FnE:={ k:=k,ins:=[none],leaks:=[],outs:=[none],kinds:=[.truth] }
def RL (ps qs:List PV):Prop:=∃ l:List (Nat->Nat),(∀ f ∈ l,∀ j,f j < 256)/\l.length<=9223372036854775807/\ps=[pRow E3 l]/\qs=[pB true]
theorem fL:∀ ps q1 q2,RL ps q1->RL ps q2->q1=q2:=by
 rintro ps q1 q2 ⟨_,_,_,_,rfl⟩ ⟨_,_,_,_,rfl⟩;rfl
noncomputable def G:Fns:=fun k=>match k with | 1=>spec RPu | 2=>spec RDw | 6=>spec RAh | 8=>spec RTrue | _=>fun _=>none
theorem u1:ToldF 8 (EPuT 1) (G 1):=toldPuT 1
theorem u2:ToldF 10 (EDw 2) (G 2):=Zjj 2
theorem u6:ToldF 13 (EAh 6) (G 6):=toldAh 6
theorem u8:ToldF 7 (ETrue 8) (G 8):=wbg.begunLit 8
theorem G1 {M:List LeM} {c s f m:Int} (h:M.length<=999999):G 1 [pRow encL M,pI c,pI s,pI f,pI m]=some [pRow encL (putB M (c,s,f,m)).1,pB (putB M (c,s,f,m)).2]:=Zbg fPu ⟨M,(c,s,f,m),h,rfl,rfl⟩
theorem G2 {M:List LeM} {c:Int} (h:M.length<=1000000):G 2 [pRow encL M,pI c]=some [pRow encL (dropW M c)]:=Zbg fDw ⟨M,c,h,rfl,rfl⟩
theorem G6 {M:List LeM} {c f:Int} (h:M.length<=1000000):G 6 [pRow encL M,pI c,pI f]=some [pB (Zea M c f)]:=Zbg fAh ⟨M,c,f,h,rfl,rfl⟩
theorem G8:G 8 []=some [pB true]:=Zbg fTrue ⟨rfl,rfl⟩
theorem rnot (b:Bool):ropPV .notB [pB b]=some (pB (!b)):=rfl
theorem r_neB (b:Bool):ropPV .neB [pB b,pB b]=some (pB false):=by simp [ropPV]
theorem k1:(EPuT 1).k=1:=rfl
theorem k2:(EDw 2).k=2:=rfl
theorem k6:(EAh 6).k=6:=rfl
theorem Zi9 {M:List LeM} {L:List Ent} {i:Int} (h:Inv M (getM L) i) (hk:Keys L):M.length=L.length:=by
 have hp:(M.map (·.1)).Perm (L.map (·.1)):=(List.perm_ext_iff_of_nodup h.u hk).2 fun c=>by
  rw [Zfs]
  constructor
  ·intro hc
   obtain ⟨x,hx,rfl⟩:=List.mem_map.1 hc
   obtain ⟨t,ht,_⟩:=h.f x hx
   simp [ht]
  ·intro hc
   obtain ⟨p,hp⟩:=Option.isSome_iff_exists.1 hc
   obtain ⟨x,hx,rfl⟩:=h.c c p hp
   exact List.mem_map_of_mem hx
 simpa using hp.length_eq
abbrev stA (l:List (Nat->Nat)) (M:List LeM) (L:List Ent) (i:Nat):List PV:=[pRow E3 l,pRow encL M,pI (i:Int),pM L]
abbrev stC (l:List (Nat->Nat)) (M:List LeM) (L:List Ent) (i a:Nat):List PV:=[pRow E3 l,pRow encL M,pI (i:Int),pI (a:Int),pM L]
abbrev stF (l:List (Nat->Nat)) (M:List LeM) (L:List Ent) (i a f:Nat):List PV:=[pRow E3 l,pRow encL M,pI (i:Int),pI (a:Int),pI (f:Int),pM L]
abbrev stB (l:List (Nat->Nat)) (M:List LeM) (L:List Ent) (i a f:Nat) (W:Bool) (b:Nat):List PV:=[pRow E3 l,pRow encL M,pI (i:Int),pI (a:Int),pI (f:Int),pB W,pB (getM L (a:Int)).isSome,pI (b:Int),pI (gv L (a:Int)).1,pI (gv L (a:Int)).2,pM L]
set_option maxHeartbeats 2000000 in
theorem loopB {C:Base} (hF:C.F=G) {l:List (Nat->Nat)} {M:List LeM} {L:List Ent} {i a f:Nat} (ha:a<=3) {k:List Code} {Q:Exit->Act->World->Prop} {ac:Act} {w:World} (hin:Zan C shB (stB l M L i a f false 1) ac w)
  (hQ:∀ ac w,Zan C shB (stB l M L i a f (wantB (getM L) a f 3) 4) ac w->wpL Try.prog k Q ac w):wpL Try.prog (.block (Zbi (nth bdF 3)) (.loop (Zbf (nth bdF 3))) :: k) Q ac w:=by
 refine Zd5 (fun q ac w=>∃ n:Nat,n<=3/\q=3 - n/\Zan C shB (stB l M L i a f (wantB (getM L) a f n) (n+1)) ac w) ?_ (n:=3) ⟨0,by omega,by omega,hin⟩
 rintro q ac w ⟨n,hn,rfl,hin⟩
 show wpL Try.prog lpB _ ac w
 rw [<- List.append_nil lpB]
 by_cases hlt:n < 3
 ·have vb:IntKind.i64.wrap (((n+1:Nat):Int)+1)=((n+1+1:Nat):Int):=wrapI _ (by omega) (by omega)
  have hle:((n+1:Nat):Int)<=3:=by omega
  have mh:=m_has L ((n+1:Nat):Int)
  have mg:=m_get L ((n+1:Nat):Int)
  have hup:∃ z:Nat,((n+1:Nat):Int)=(z:Int)/\z<=4294967296:=⟨n+1,rfl,by omega⟩
  have next:∀ (W:Bool) qs a' w',W=wantB (getM L) a f (n+1)->qs=[pRow E3 l,pRow encL M,pI (i:Int),pI (a:Int),pI (f:Int),pB W,pB (getM L (a:Int)).isSome,pI ((n+1+1:Nat):Int),pI (gv L (a:Int)).1,pI (gv L (a:Int)).2,pM L]->Zan C shB qs a' w'->∃ n',n' < 3 - n/\∃ m:Nat,m<=3/\n'=3 - m/\Zan C shB (stB l M L i a f (wantB (getM L) a f m) (m+1)) a' w':=by
   rintro W qs a' w' rfl rfl h
   exact ⟨3 - (n+1),by omega,n+1,by omega,rfl,h⟩
  have hW:wantB (getM L) a f (n+1)=(wantB (getM L) a f n || condB (getM L) a f ((n+1:Nat):Int)):=rfl
  rw [hW] at next
  have hin:Zan C shB [pRow E3 l,pRow encL M,pI (i:Int),pI (a:Int),pI (f:Int),pB (wantB (getM L) a f n),pB (getM L (a:Int)).isSome,pI ((n+1:Nat):Int),pI (gv L (a:Int)).1,pI (gv L (a:Int)).2,pM L] ac w:=hin
  generalize wantB (getM L) a f n=W at *
  generalize hb:((n+1:Nat):Int)=b at *
  generalize hb2:((n+1+1:Nat):Int)=b2 at *
  clear hW
  have go:∀ (W':Bool) qs a1 w1,W'=(W || condB (getM L) (a:Int) (f:Int) b)->[pRow E3 l,pRow encL M,pI (i:Int),pI (a:Int),pI (f:Int),pB W',pB (getM L (a:Int)).isSome,pI b2,pI (gv L (a:Int)).1,pI (gv L (a:Int)).2,pM L]=qs->Zan C shB qs a1 w1->_:=fun W' qs a1 w1 h1 h2 h3=>next W' qs a1 w1 h1 h2.symm h3
  cases W with
  | true =>
   refine Zar names_ok mixed_ok (Zai _) b1 hin ?_ (fun qs a1 w1 hq h1=>⟨fun _=>.inl ⟨rfl,go true qs a1 w1 (by simp) (by simp [evs,SX.ev,binPV,vb] at hq;exact hq) h1⟩,fun h=>absurd rfl h⟩)
   simp [Zae,Zab,Base.ev,SX.ev,evs,Value.oneCell',binPV,hle,vb,hup]
  | false =>
   by_cases e:b=(a:Int)
   ·refine Zar names_ok mixed_ok (Zai _) b2' hin ?_ (fun qs a1 w1 hq h1=>⟨fun _=>.inl ⟨rfl,go false qs a1 w1 (by simp [condB,e]) (by simp [evs,SX.ev,binPV,vb] at hq;exact hq) h1⟩,fun h=>absurd rfl h⟩)
    simp [Zae,Zab,Base.ev,SX.ev,evs,Value.oneCell',binPV,hle,vb,hup,e]
    all_goals omega
   cases hg:getM L b with
   | none =>
    rw [hg] at mh
    refine Zar names_ok mixed_ok (Zai _) b3 hin ?_ (fun qs a1 w1 hq h1=>⟨fun _=>.inl ⟨rfl,go false qs a1 w1 (by simp [condB,hg]) (by simp [evs,SX.ev,binPV,vb] at hq;exact hq) h1⟩,fun h=>absurd rfl h⟩)
    simp [Zae,Zab,Base.ev,SX.ev,evs,Value.oneCell',binPV,hle,vb,hup,e,mh]
   | some p =>
    rw [hg] at mh
    rw [show gv L b=p by simp [gv,hg]] at mg
    by_cases e1:p.1=(f:Int)
    ·cases hga:getM L (a:Int) with
     | none =>
      rw [hga] at hin go
      refine Zar names_ok mixed_ok (Zai _) b5 hin ?_ (fun qs a1 w1 hq h1=>⟨fun _=>.inl ⟨rfl,go true qs a1 w1 (by simp [condB,hg,hga,e,e1]) (by simp [evs,SX.ev,binPV,vb] at hq;exact hq) h1⟩,fun h=>absurd rfl h⟩)
      simp [Zae,Zab,Base.ev,SX.ev,evs,Value.oneCell',binPV,hle,vb,hup,e,mh,mg,part0,part1,e1]
     | some q =>
      rw [hga] at hin go
      rw [show gv L (a:Int)=q by simp [gv,hga]] at hin go
      by_cases e2:q.1=(f:Int)
      ·by_cases e3:p.2 < q.2
       ·refine Zar names_ok mixed_ok (Zai _) b7 hin ?_ (fun qs a1 w1 hq h1=>⟨fun _=>.inl ⟨rfl,go true qs a1 w1 (by simp [condB,hg,hga,e,e1,e2,e3]) (by simp [evs,SX.ev,binPV,vb] at hq;exact hq) h1⟩,fun h=>absurd rfl h⟩)
        simp [Zae,Zab,Base.ev,SX.ev,evs,Value.oneCell',binPV,hle,vb,hup,e,mh,mg,part0,part1,e1,e2,e3]
       ·refine Zar names_ok mixed_ok (Zai _) b8 hin ?_ (fun qs a1 w1 hq h1=>⟨fun _=>.inl ⟨rfl,go false qs a1 w1 (by simp [condB,hg,hga,e,e1,e2,e3]) (by simp [evs,SX.ev,binPV,vb] at hq;exact hq) h1⟩,fun h=>absurd rfl h⟩)
        simp [Zae,Zab,Base.ev,SX.ev,evs,Value.oneCell',binPV,hle,vb,hup,e,mh,mg,part0,part1,e1,e2,e3]
      ·refine Zar names_ok mixed_ok (Zai _) b6 hin ?_ (fun qs a1 w1 hq h1=>⟨fun _=>.inl ⟨rfl,go true qs a1 w1 (by simp [condB,hg,hga,e,e1,e2]) (by simp [evs,SX.ev,binPV,vb] at hq;exact hq) h1⟩,fun h=>absurd rfl h⟩)
       simp [Zae,Zab,Base.ev,SX.ev,evs,Value.oneCell',binPV,hle,vb,hup,e,mh,mg,part0,part1,e1,e2]
    ·refine Zar names_ok mixed_ok (Zai _) b4 hin ?_ (fun qs a1 w1 hq h1=>⟨fun _=>.inl ⟨rfl,go false qs a1 w1 (by simp [condB,hg,e1]) (by simp [evs,SX.ev,binPV,vb] at hq;exact hq) h1⟩,fun h=>absurd rfl h⟩)
     simp [Zae,Zab,Base.ev,SX.ev,evs,Value.oneCell',binPV,hle,vb,hup,e,mh,mg,part0,part1,e1]
 ·obtain rfl:n=3:=by omega
  refine Zar names_ok mixed_ok (Zai _) bex hin ?_ (fun qs a1 w1 hq h1=>⟨nofun,fun _=>.inr (.inl ⟨by rw [show Zbi (nth bdF 3)=6 by kernel_rfl];rfl,hQ a1 w1 (by simp [evs,SX.ev] at hq;subst hq;exact h1)⟩)⟩)
  simp [Zae,Zab,Base.ev,SX.ev,evs,Value.oneCell',binPV]
set_option maxHeartbeats 2000000 in
theorem loopF {C:Base} (hF:C.F=G) {l:List (Nat->Nat)} {M:List LeM} {L:List Ent} {i a:Nat} {t:Int} (hI:Inv M (getM L) t) (ha:a<=3) {k:List Code} {Q:Exit->Act->World->Prop} {ac:Act} {w:World} (hin:Zan C shF (stF l M L i a 1) ac w)
  (hQ:∀ ac w,Zan C shF (stF l M L i a 3) ac w->wpL Try.prog k Q ac w):wpL Try.prog (.block (Zbi (nth bdC 1)) (.loop (Zbf (nth bdC 1))) :: k) Q ac w:=by
 have hl:=Zib hI
 refine Zd5 (fun q ac w=>∃ f:Nat,1<=f/\f<=3/\q=3 - f/\Zan C shF (stF l M L i a f) ac w) ?_ (n:=2) ⟨1,by omega,by omega,by omega,hin⟩
 rintro q ac w ⟨f,hf1,hf3,rfl,hin⟩
 show wpL Try.prog lpF _ ac w
 by_cases hlt:f<=2
 ·rw [cutF]
  refine Zar names_ok mixed_ok (Zai _) f0 hin ?_ ?_
  ·simp [Zae,Zab,Base.ev,SX.ev,evs,Value.oneCell',binPV]
   all_goals omega
  intro qs a2 w2 hq h2
  refine ⟨fun _=>?_,fun h=>absurd rfl h⟩
  simp [evs,SX.ev] at hq
  subst hq
  refine Zhe ?_
  show wpL Try.prog bdF _ a2 w2
  rw [cutG]
  have mh:=m_has L (a:Int)
  have mg:=m_get L (a:Int)
  refine Zar names_ok mixed_ok (Zai _) f1 h2 ?_ ?_
  ·simp [Zae,Zab,Base.ev,SX.ev,evs,Value.oneCell',binPV,mh,mg,part0,part1]
   all_goals omega
  intro qs a3 w3 hq h3
  refine ⟨fun _=>?_,fun h=>absurd rfl h⟩
  simp [evs,SX.ev,mh,mg,part0,part1] at hq
  subst hq
  refine loopB hF ha h3 fun a4 w4 h4=>?_
  have e6:=G6 (M:=M) (c:=(a:Int)) (f:=(f:Int)) (by omega)
  rw [ahead_want hI] at e6
  have vf:IntKind.i64.wrap ((f:Int)+1)=(f:Int)+1:=wrapI _ (by omega) (by omega)
  generalize wantB (getM L) (a:Int) (f:Int) 3=W at *
  rw [<- List.append_nil (bdF.drop 4)]
  refine Zar names_ok mixed_ok (Zai _) fend h4 ?_ ?_
  ·simp [Zae,Zab,Base.ev,SX.ev,evs,Value.oneCell',hF,binPV,e6,u6,lineFirst.k6,r_neB]
  intro qs a5 w5 hq h5
  refine ⟨fun _=>.inl ⟨rfl,?_⟩,fun h=>absurd rfl h⟩
  simp [evs,SX.ev] at hq
  subst hq
  rw [<- List.append_nil (lpF.drop 3)]
  refine Zar names_ok mixed_ok (Zai _) fst h5 ?_ ?_
  ·simp [Zae,Zab,Base.ev,SX.ev,evs,Value.oneCell',binPV,vf]
  intro qs a6 w6 hq h6
  refine ⟨fun _=>.inl ⟨rfl,3 - (f+1),by omega,f+1,by omega,by omega,rfl,?_⟩,fun h=>absurd rfl h⟩
  simp [evs,SX.ev,binPV,vf] at hq
  subst hq
  exact h6
 ·obtain rfl:f=3:=by omega
  rw [<- List.append_nil lpF]
  refine Zar names_ok mixed_ok (Zai _) fex hin ?_ (fun qs a1 w1 hq h1=>⟨nofun,fun _=>.inr (.inl ⟨by rw [show Zbi (nth bdC 1)=4 by kernel_rfl];rfl,hQ a1 w1 (by simp [evs,SX.ev] at hq;subst hq;exact h1)⟩)⟩)
  simp [Zae,Zab,Base.ev,SX.ev,evs,Value.oneCell',binPV]
set_option maxHeartbeats 2000000 in
theorem loopC {C:Base} (hF:C.F=G) {l:List (Nat->Nat)} {M:List LeM} {L:List Ent} {i:Nat} {t:Int} (hI:Inv M (getM L) t) {k:List Code} {Q:Exit->Act->World->Prop} {ac:Act} {w:World} (hin:Zan C shC (stC l M L i 1) ac w)
  (hQ:∀ ac w,Zan C shC (stC l M L i 4) ac w->wpL Try.prog k Q ac w):wpL Try.prog (.block (Zbi (nth bdA 6)) (.loop (Zbf (nth bdA 6))) :: k) Q ac w:=by
 refine Zd5 (fun q ac w=>∃ a:Nat,1<=a/\a<=4/\q=4 - a/\Zan C shC (stC l M L i a) ac w) ?_ (n:=3) ⟨1,by omega,by omega,by omega,hin⟩
 rintro q ac w ⟨a,ha1,ha4,rfl,hin⟩
 show wpL Try.prog lpC _ ac w
 by_cases hlt:a<=3
 ·rw [cutC]
  refine Zar names_ok mixed_ok (Zai _) c0 hin ?_ ?_
  ·simp [Zae,Zab,Base.ev,SX.ev,evs,Value.oneCell',binPV]
   all_goals omega
  intro qs a2 w2 hq h2
  refine ⟨fun _=>?_,fun h=>absurd rfl h⟩
  simp [evs,SX.ev] at hq
  subst hq
  refine Zhe ?_
  show wpL Try.prog bdC _ a2 w2
  rw [cutD]
  refine Zar names_ok mixed_ok (Zai _) c1 h2 (by simp [Base.ev,SX.ev,Value.oneCell']) ?_
  intro qs a3 w3 hq h3
  refine ⟨fun _=>?_,fun h=>absurd rfl h⟩
  simp [evs,SX.ev] at hq
  subst hq
  have va:IntKind.i64.wrap ((a:Int)+1)=(a:Int)+1:=wrapI _ (by omega) (by omega)
  refine loopF hF hI hlt h3 fun a4 w4 h4=>?_
  refine .inl ⟨rfl,?_⟩
  rw [<- List.append_nil (lpC.drop 3)]
  refine Zar names_ok mixed_ok (Zai _) cst h4 ?_ ?_
  ·simp [Zae,Zab,Base.ev,SX.ev,evs,Value.oneCell',binPV,va]
  intro qs a6 w6 hq h6
  refine ⟨fun _=>.inl ⟨rfl,4 - (a+1),by omega,a+1,by omega,by omega,rfl,?_⟩,fun h=>absurd rfl h⟩
  simp [evs,SX.ev,binPV,va] at hq
  subst hq
  exact h6
 ·obtain rfl:a=4:=by omega
  rw [<- List.append_nil lpC]
  refine Zar names_ok mixed_ok (Zai _) cex hin ?_ (fun qs a1 w1 hq h1=>⟨nofun,fun _=>.inr (.inl ⟨by rw [show Zbi (nth bdA 6)=2 by kernel_rfl];rfl,hQ a1 w1 (by simp [evs,SX.ev] at hq;subst hq;exact h1)⟩)⟩)
  simp [Zae,Zab,Base.ev,SX.ev,evs,Value.oneCell',binPV]
set_option maxHeartbeats 4000000 in
theorem told (k0:Nat):ToldF 4 (ELaw k0) (spec RL):=by
 refine told_by G _ (Zgu Try.prog 4) Try.func4 (by kernel_rfl) sh0 (by kernel_rfl) ?_ ?_
 ·intro ps qs h
  obtain ⟨l,_,_,rfl,rfl⟩:=Zbp h
  exact Zhn rfl
 ·intro C ps qs hF h a w hsh
  obtain ⟨l,hz,hl,rfl,rfl⟩:=Zbp h
  show wpL Try.prog flA _ a w
  have fin:∀ qs a1 w1,qs=[pB true]->Zan C shR qs a1 w1->(AX.ret=.normal->wpL Try.prog [] (fun e a' w'=>(e=.normal \/ e=.ret)/\∃ sh' ps' es,Zan C sh' ps' a' w'/\resTo Try.prog Try.f4 sh' (ELaw k0)=some es/\evs (fun i=>ps'[i]?) G es=some [pB true]) a1 w1)/\(AX.ret ≠ .normal->(AX.ret.to=.normal \/ AX.ret.to=.ret)/\∃ sh' ps' es,Zan C sh' ps' a1 w1/\resTo Try.prog Try.f4 sh' (ELaw k0)=some es/\evs (fun i=>ps'[i]?) G es=some [pB true]):=by
   rintro qs a1 w1 rfl h1
   exact ⟨nofun,fun _=>⟨.inr rfl,shR,_,[SX.var 0],h1,by kernel_rfl,rfl⟩⟩
  by_cases hl1:30 < l.length
  ·rw [<- List.append_nil flA]
   refine Zar names_ok mixed_ok (Zai _) q1 hsh ?_ (fun qs a1 w1 hq h1=>fin qs a1 w1 (by simp [evs,SX.ev] at hq;exact hq.symm) h1)
   simp [Zae,Zab,Base.ev,SX.ev,evs,Value.oneCell',hF,Zas,binPV,G8,u8]
   all_goals omega
  rw [cutA]
  refine Zar names_ok mixed_ok (Zai _) pre hsh ?_ ?_
  ·simp [Zae,Zab,Base.ev,SX.ev,evs,Value.oneCell',hF,Zas,binPV,G8,u8]
   all_goals omega
  intro qs a1 w1 hq h1
  refine ⟨fun _=>?_,fun h=>absurd rfl h⟩
  simp [evs,SX.ev] at hq
  subst hq
  refine Zd5 (fun q' a w=>∃ (i:Nat) (M:List LeM) (L:List Ent),i<=l.length/\q'=l.length - i/\Inv M (getM L) (i:Int)/\Keys L/\Zan C shA (stA l M L i) a w) ?_ (n:=l.length) ⟨0,[],[],by omega,by omega,inv_nil.ext fun _=>rfl,List.nodup_nil,h1⟩
  rintro q' a w ⟨i,M,L,hi,rfl,hI,hK,hin⟩
  show wpL Try.prog lpA _ a w
  by_cases hlt:i < l.length
  ·have hzi:=hz _ (List.getElem_mem hlt)
   have c0':Zcw (pRow E3 l) (pI (i:Int)) 3 0=some (pU (l[i] 0:Int)):=cellK 3 _ l i hlt 0 (by omega)
   have c1':Zcw (pRow E3 l) (pI (i:Int)) 3 1=some (pU (l[i] 1:Int)):=cellK 3 _ l i hlt 1 (by omega)
   have c2':Zcw (pRow E3 l) (pI (i:Int)) 3 2=some (pU (l[i] 2:Int)):=cellK 3 _ l i hlt 2 (by omega)
   have i1:=Zfu E3 l i 3 1 .i64 rfl hlt (by decide)
   have i2:=Zfu E3 l i 3 2 .i64 rfl hlt (by decide)
   have i3:=Zfu E3 l i 3 3 .i64 rfl hlt (by decide)
   have v3:IntKind.i64.wrap ((i:Int)+1)=(i:Int)+1:=wrapI _ (by omega) (by omega)
   have v4:IntKind.i64.wrap (1+(i:Int))=1+(i:Int):=wrapI _ (by omega) (by omega)
   generalize l[i]=g at *
   obtain ⟨x0,h0⟩:∃ x0:Nat,g 0 % 4=x0:=⟨_,rfl⟩
   obtain ⟨x1,h1'⟩:∃ x1:Nat,g 1 % 3=x1:=⟨_,rfl⟩
   obtain ⟨x2,h2'⟩:∃ x2:Nat,g 2 % 2=x2:=⟨_,rfl⟩
   have t0:(g 0:Int).tmod 4=(x0:Int):=by rw [<- h0];rfl
   have t1:(g 1:Int).tmod 3=(x1:Int):=by rw [<- h1'];rfl
   have t2:(g 2:Int).tmod 2=(x2:Int):=by rw [<- h2'];rfl
   have w1':IntKind.i64.wrap (x1:Int)=(x1:Int):=wrapI _ (by omega) (by omega)
   have w2':IntKind.i64.wrap (x2:Int)=(x2:Int):=wrapI _ (by omega) (by omega)
   have hc1:1<=1+(x1:Int)/\1+(x1:Int)<=3:=by omega
   have hup:∃ z:Nat,1+(x1:Int)=(z:Int)/\z<=4294967296:=⟨1+x1,by omega,by omega⟩
   have wc:IntKind.i64.wrap (1+(x1:Int))=1+(x1:Int):=wrapI _ (by omega) (by omega)
   have wf:IntKind.i64.wrap (1+(x2:Int))=1+(x2:Int):=wrapI _ (by omega) (by omega)
   have hl3:=Zib hI
   rw [cutL]
   refine Zar names_ok mixed_ok (Zai _) hd hin ?_ ?_
   ·simp [Zae,Zab,Base.ev,SX.ev,evs,Value.oneCell',Zas,binPV]
    all_goals omega
   intro qs a2 w2 hq h2
   refine ⟨fun _=>?_,fun h=>absurd rfl h⟩
   simp [evs,SX.ev] at hq
   subst hq
   refine Zhe ?_
   show wpL Try.prog bdA _ a2 w2
   rw [cutB]
   generalize hcc:1+(x1:Int)=c at *
   generalize hff:1+(x2:Int)=f at *
   have body:∀ (k:List Code) (QB:Exit->Act->World->Prop),(∀ (M2:List LeM) (L2:List Ent),Inv M2 (getM L2) ((i:Int)+1)->Keys L2->∀ a3 w3,Zan C shC (stC l M2 L2 i 1) a3 w3->wpL Try.prog k QB a3 w3)->wpL Try.prog (bdA.take 6++k) QB a2 w2:=by
    intro k QB rest
    have mh:=m_has L c
    have mg:=m_get L c
    by_cases d0:0 < x0
    ·have e1:=G1 (c:=c) (s:=1+(i:Int)) (f:=f) (m:=1) (show M.length<=999999 by omega)
     have pk:=pack2 (.int .i64 f) (.int .i64 (i:Int))
     obtain ⟨L',hp,hg,hK'⟩:=m_put L hK c f (i:Int)
     cases hgc:getM L c with
     | none =>
      rw [hgc] at mh
      obtain ⟨ok,hI2⟩:=inv_new (g':=getM L') hI (c,1+(i:Int),f,1) hc1 (by simp [hgc]) hg
      have hln:=Zi9 hI2 hK'
      generalize putB M (c,1+(i:Int),f,1)=MB at *
      obtain ⟨M2,ok'⟩:=MB
      simp only at ok hI2 hln e1
      subst ok
      refine Zar names_ok mixed_ok (Zai _) pN h2 ?_ (fun qs a3 w3 hq h3=>⟨fun _=>rest M2 L' hI2 hK' a3 w3 (by simp [evs,SX.ev,hF,binPV,Zde,c0',c1',c2',t0,t1,t2,w1',w2',hcc,hff,wc,wf,v4,e1,pk,hp] at hq;subst hq;exact h3),fun h=>absurd rfl h⟩)
      simp [Zae,Zab,Base.ev,SX.ev,evs,Value.oneCell',hF,Zas,lenM,binPV,Zde,c0',c1',c2',i1,i2,i3,t0,t1,t2,w1',w2',hcc,hff,wc,wf,v4,e1,u1,lineFirst.k1,d0,hup,mh,mg,part0,part1,pk,hp,hln,lineFirst.rnot]
     | some p =>
      rw [hgc] at mh
      rw [show gv L c=p by simp [gv,hgc]] at mg
      by_cases d1:p.1=f
      ·obtain ⟨ok,hI2⟩:=inv_same hI (c,1+(i:Int),f,1) (t:=p.2) (by rw [hgc,<- d1])
       have hI3:=hI2.mono (j:=(i:Int)+1) (by omega)
       have hln:=Zi9 hI3 hK
       generalize putB M (c,1+(i:Int),f,1)=MB at *
       obtain ⟨M2,ok'⟩:=MB
       simp only at ok hI3 hln e1
       subst ok
       refine Zar names_ok mixed_ok (Zai _) pS h2 ?_ (fun qs a3 w3 hq h3=>⟨fun _=>rest M2 L hI3 hK a3 w3 (by simp [evs,SX.ev,hF,binPV,Zde,c0',c1',c2',t0,t1,t2,w1',w2',hcc,hff,wc,wf,v4,e1] at hq;subst hq;exact h3),fun h=>absurd rfl h⟩)
       simp [Zae,Zab,Base.ev,SX.ev,evs,Value.oneCell',hF,Zas,lenM,binPV,Zde,c0',c1',c2',i1,i2,i3,t0,t1,t2,w1',w2',hcc,hff,wc,wf,v4,e1,u1,lineFirst.k1,d0,hup,mh,mg,part0,part1,d1,hln,lineFirst.rnot]
      ·obtain ⟨ok,hI2⟩:=inv_new (g':=getM L') hI (c,1+(i:Int),f,1) hc1 (by intro q hq;rw [hgc] at hq;cases hq;exact d1) hg
       have hln:=Zi9 hI2 hK'
       generalize putB M (c,1+(i:Int),f,1)=MB at *
       obtain ⟨M2,ok'⟩:=MB
       simp only at ok hI2 hln e1
       subst ok
       refine Zar names_ok mixed_ok (Zai _) pD h2 ?_ (fun qs a3 w3 hq h3=>⟨fun _=>rest M2 L' hI2 hK' a3 w3 (by simp [evs,SX.ev,hF,binPV,Zde,c0',c1',c2',t0,t1,t2,w1',w2',hcc,hff,wc,wf,v4,e1,pk,hp] at hq;subst hq;exact h3),fun h=>absurd rfl h⟩)
       simp [Zae,Zab,Base.ev,SX.ev,evs,Value.oneCell',hF,Zas,lenM,binPV,Zde,c0',c1',c2',i1,i2,i3,t0,t1,t2,w1',w2',hcc,hff,wc,wf,v4,e1,u1,lineFirst.k1,d0,hup,mh,mg,part0,part1,pk,hp,d1,hln,lineFirst.rnot]
    ·have d0':x0=0:=by omega
     have e2:=G2 (M:=M) (c:=c) (by omega)
     obtain ⟨L',hp,hg,hK'⟩:=m_del L hK c
     have hI2:=(inv_drop (g':=getM L') hI c hg).mono (j:=(i:Int)+1) (by omega)
     have hln:=Zi9 hI2 hK'
     generalize dropW M c=M2 at *
     refine Zar names_ok mixed_ok (Zai _) dl h2 ?_ (fun qs a3 w3 hq h3=>⟨fun _=>rest M2 L' hI2 hK' a3 w3 (by simp [evs,SX.ev,hF,binPV,Zde,c0',c1',c2',t0,t1,t2,w1',w2',hcc,hff,wc,wf,e2,hp] at hq;subst hq;exact h3),fun h=>absurd rfl h⟩)
     simp [Zae,Zab,Base.ev,SX.ev,evs,Value.oneCell',hF,Zas,lenM,binPV,Zde,c0',c1',c2',i1,i2,i3,t0,t1,t2,w1',w2',hcc,hff,wc,wf,e2,u2,lineFirst.k2,d0',hup,hp,hln]
   refine body _ _ fun M2 L2 hI2 hK2 a3 w3 h3=>?_
   refine loopC hF hI2 h3 fun a4 w4 h4=>.inl ⟨rfl,?_⟩
   rw [<- List.append_nil (lpA.drop 3)]
   refine Zar names_ok mixed_ok (Zai _) ast h4 ?_ ?_
   ·simp [Zae,Zab,Base.ev,SX.ev,evs,Value.oneCell',binPV,v3]
   intro qs a6 w6 hq h6
   refine ⟨fun _=>.inl ⟨rfl,l.length - (i+1),by omega,i+1,M2,L2,by omega,rfl,hI2,hK2,?_⟩,fun h=>absurd rfl h⟩
   simp [evs,SX.ev,binPV,v3] at hq
   subst hq
   exact h6
  ·have hie:i=l.length:=by omega
   subst hie
   rw [<- List.append_nil lpA]
   refine Zar names_ok mixed_ok (Zai _) ex hin ?_ ?_
   ·simp [Zae,Zab,Base.ev,SX.ev,evs,Value.oneCell',Zas,binPV]
   ·intro qs a1' w1 hq h1
    refine ⟨nofun,fun _=>.inr (.inl ⟨by rw [show Zbi (nth flA 8)=0 by kernel_rfl];rfl,?_⟩)⟩
    simp [evs,SX.ev] at hq
    subst hq
    rw [<- List.append_nil (flA.drop 9)]
    refine Zar names_ok mixed_ok (Zai _) post h1 ?_ (fun qs a1 w1 hq h1=>fin qs a1 w1 (by simp [evs,SX.ev] at hq;exact hq.symm) h1)
    simp [Zae,Zab,Base.ev,SX.ev,evs,Value.oneCell',Zas,binPV]
theorem walk (w:World) (v:Value) (len:Nat) (Z:Nat->Nat->Int) (h:IsGrid 3 w v len Z) :
  Calls Try.prog 4 #[v] w fun e w'=>e=.returned (.bool true)/\Ex w w':=by
 obtain ⟨l,hb,hr⟩:=gridK pos3 h
 refine told_true (told 0) rfl (us:=[v]) (ps:=[pRow E3 l]) (Zbg fL ⟨l,hb,reads_len hr,rfl,rfl⟩) rfl rfl (fun i p u hp hu=>?_)
 match i,hp,hu with
 | 0,hp,hu=>simp at hp hu;subst hp;subst hu;exact hr
 | i+1,hp,hu=>simp at hp
end Go.Proofs.Ytaondjmimobnbaa.lineFirst
end
