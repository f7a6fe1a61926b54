/- Texts joined. -/
import Derived.Test.YtpnegheknjeljaaGreatMrg4
import Derived.Test.YtpnegheknjeljaaGreatDskMath
import Derived.Test.YtpnegheknjeljaaGreatDskAt
section
/- Texts joined. -/
section
/- What the symbolic engine's user needs, more of it. -/
namespace Go.Proofs.YtpnegheknjeljaaGreat.eng
open Go Go.RowKit
set_option linter.unusedVariables false
set_option linter.unusedSimpArgs false
@[simp] theorem ex_kz (k0:IntKind) (x:Int) (p:Int->Prop):(∃ k z,(k0=k/\x=z)/\p z) ↔ p x:=⟨fun ⟨_,_,⟨_,h⟩,hp⟩=>h ▸ hp,fun h=>⟨_,_,⟨rfl,rfl⟩,h⟩⟩
theorem Zgk (n:Nat) (cs:List PV):lenPV (.row n cs)=some (pI n):=rfl
@[simp] theorem ex_one:(∃ z:Nat,(1:Int)=(z:Int)) ↔ True:=⟨fun _=>trivial,fun _=>⟨1,rfl⟩⟩
@[simp] theorem ex_one' (K:Nat):(∃ z:Nat,(1:Int)=(z:Int)/\z<=K) ↔ 1<=K:=⟨fun ⟨z,h,h2⟩=>by omega,fun h=>⟨1,rfl,h⟩⟩
theorem Zqr {α:Type} (E:Enc α) (xs:List α):(E.all xs).length=xs.length * E.sz:=E.all_length xs
theorem r_cat0 {α:Type} (E:Enc α) (b:List α):ropPV .cat [.row 0 [],pRow E b]=some (pRow E b):=by simp [ropPV,pRow]
theorem all_split' {α:Type} (E:Enc α) (xs:List α) (i:Nat) (h:i < xs.length):E.all xs=E.all (xs.take i)++(E.enc xs[i]++E.all (xs.drop (i+1))):=by
 rw [<- Enc.all_cons,<- Enc.all_append,<- List.drop_eq_getElem_cons h,List.take_append_drop]
theorem set_split {α:Type} (xs:List α) (i:Nat) (x:α) (h:i < xs.length):xs.set i x=xs.take i++x :: xs.drop (i+1):=by
 rw [List.set_eq_take_append_cons_drop,if_pos h]
theorem Zrh {α:Type} (E:Enc α) (xs:List α) (i:Nat) (k:IntKind) (x:α) (h:i < xs.length):ropPV (.upd E.sz 0) (pRow E xs :: .v (.int k (i:Int)) :: (E.enc x).map .v)=some (pRow E (xs.set i x)):=by
 have h0:(0:Int)<=(i:Int):=by omega
 have h1:(i:Int) < (xs.length:Int):=by omega
 have hl:(E.all (xs.take i)).length=i * E.sz:=by rw [Zqr,List.length_take,Nat.min_eq_left (by omega)]
 have hp:putPV ((E.all xs).map PV.v) (i * E.sz) ((E.enc x).map PV.v)=(E.all (xs.set i x)).map PV.v:=by
  rw [set_split xs i x h,Enc.all_append,Enc.all_cons,all_split' E xs i h]
  simp only [putPV,List.length_map,E.len,<- hl,List.map_append]
  rw [List.take_left' (by simp),<- List.append_assoc ((E.all (xs.take i)).map PV.v),List.drop_left' (by simp [E.len]),List.append_assoc]
 simp [ropPV,pRow,h1,E.len,hp]
def IdxP (p q:Option PV) (sz sub:Nat):Prop:=∃ n cs k z,p=some (.row n cs)/\q=some (.v (.int k z))/\0<=z/\z < (n:Int)/\z.toNat * sz+sub<=cs.length
theorem Zab (B:Base) (e i:SX) (sz sub:Nat):(Fact.idx e i sz sub).holds B ↔ IdxP (B.ev e) (B.ev i) sz sub:=Iff.rfl
theorem Zbi {α:Type} (E:Enc α) (xs:List α) (j sz sub:Nat) (k:IntKind) (hz:sz=E.sz) (h:j < xs.length) (hs:sub<=E.sz):IdxP (some (pRow E xs)) (some (.v (.int k (j:Int)))) sz sub:=by
 subst hz
 refine ⟨_,_,_,_,rfl,rfl,by omega,by omega,?_⟩
 rw [List.length_map,E.all_length]
 have:(j+1) * E.sz<=xs.length * E.sz:=Nat.mul_le_mul_right _ h
 rw [Nat.add_mul] at this
 simp
 omega
def Zr9 (p:Option PV) (sz:Nat):Prop:=∃ (n:Nat) (vs:List Value),p=some (.row n (vs.map PV.v))/\vs.length=n * sz/\n<=maxLen/\∀ v ∈ vs,v.oneCell'=true
theorem Zaa (B:Base) (e:SX) (sz:Nat):(Fact.cells e sz).holds B ↔ Zr9 (B.ev e) sz:=Iff.rfl
theorem Zmg {α:Type} (E:Enc α) (xs:List α) (sz:Nat) (hz:sz=E.sz) (hl:xs.length<=1000000000):Zr9 (some (pRow E xs)) sz:=by
 subst hz
 refine ⟨xs.length,E.all xs,rfl,Zqr E xs,?_,fun v hv=>E.all_one' xs v hv⟩
 have:maxLen=9223372036854775807:=by unfold maxLen;simp [IntKind.max]
 omega
@[simp] theorem ex_zero:(∃ z:Nat,(0:Int)=(z:Int)) ↔ True:=⟨fun _=>trivial,fun _=>⟨0,rfl⟩⟩
@[simp] theorem ex_two:(∃ z:Nat,(2:Int)=(z:Int)) ↔ True:=⟨fun _=>trivial,fun _=>⟨2,rfl⟩⟩
theorem Zjs {f:FuncId} {E E':FnE} {spec:List PV->Option (List PV)} (h:ToldF f E spec) (h1:E'.ins=E.ins) (h2:E'.leaks=E.leaks) (h3:E'.outs=E.outs) (h4:E.kinds.all CK.plain=true) (h5:E'.kinds.all CK.plain=true):ToldF f E' spec:=by
 intro w FP us ps qs hs hul hpl hFP hrd
 rw [h1] at hpl ⊢
 rw [h2] at hrd
 refine (h w FP us ps qs hs hul hpl hFP hrd).mono ?_
 rintro e w' ⟨us',ow,g1,g2,g3,g4,g5,g6⟩
 have hno:∀ i,ow i=none:=fun i=>by
  cases ho:ow i with
  | none=>rfl
  | some b =>
   obtain ⟨el,sz,may,q,u,k1,_⟩:=g3.at' i b ho
   have:=List.all_eq_true.1 h4 _ (List.mem_of_getElem? k1)
   simp [CK.plain] at this
 exact ⟨us',fun _=>none,g1,by rw [h3];exact g2,Zdt h5,fun i q u hq hu w2 hw2=>g4 i q u hq hu w2 (fun k hk _=>hw2 k hk (fun _ _ hx=>by cases hx)),by rw [h3];exact g5,g6⟩
def blockBody:Code->Code | .block _ b=>b | _=>.skip
end Go.Proofs.YtpnegheknjeljaaGreat.eng
end
section
/- Texts joined. -/
section
/- Parts of texts, and things compared, as the symbolic engine has them. -/
namespace Go.Proofs.YtpnegheknjeljaaGreat.symD
open Go Go.RowKit eng
set_option linter.unusedVariables false
set_option linter.unusedSimpArgs false
set_option maxRecDepth 100000

theorem Zqa (P:Program) (v:Value):Zek P (Sem.pure (.value v))=some (.inl v):=rfl
theorem Zp8 {α β:Type} (a:α) (f:α->Sem β):(Sem.pure a).bind f=f a:=rfl
theorem Zrd {α:Type} (a:α):(pure a:Sem α)=Sem.pure a:=rfl
theorem Zre {α β:Type} (x:Sem α) (f:α->Sem β):(x >>= f)=x.bind f:=rfl


end Go.Proofs.YtpnegheknjeljaaGreat.symD
end
section
/- A disk as the symbolic engine has it; what its functions Zcn. -/
namespace Go.Proofs.YtpnegheknjeljaaGreat.symD
open Go Go.RowKit eng dsk
set_option linter.unusedVariables false
set_option linter.unusedSimpArgs false
set_option maxRecDepth 100000


def pD (d:D):List PV:=[pRow encS d.last,pRow encP d.wait,pI (d.arm:Int),pB d.down]
theorem Zfr {w:World} {x:Value} (h:x.oneCell'=true):Reads w (.v x) x:=by simp only [Reads];exact ⟨trivial,h⟩
def RRead (ps qs:List PV):Prop:=∃ (d:D) (i:Int),d.ok/\ps=pD d++[pI i]/\qs=[pS (readD d i).1,pB (readD d i).2]
def ERead (k:Nat):FnE:={ k:=k,ins:=[some 4,none],leaks:=[],outs:=[none,none],kinds:=[.num,.truth] }
theorem pRow_inj {α:Type} {E:Enc α} (hinj:∀ xs ys:List α,E.all xs=E.all ys->xs=ys) {xs ys:List α} (h:pRow E xs=pRow E ys):xs=ys:=by
 simp only [pRow,PV.row.injEq] at h
 refine hinj xs ys ?_
 have:=congrArg (List.map fun p=>(PV.plain p).getD undef) h.2
 simpa [List.map_map,Function.comp_def,PV.plain] using this
theorem encS_inj:∀ xs ys:List ByteArray,encS.all xs=encS.all ys->xs=ys
 | [],[],_=>rfl
 | [],_ :: _,h=>by simp [Enc.all,encS] at h
 | _ :: _,[],h=>by simp [Enc.all,encS] at h
 | x :: xs,y :: ys,h=>by
  rw [Enc.all_cons,Enc.all_cons] at h
  simp only [encS,List.cons_append,List.nil_append,List.cons.injEq,Value.string.injEq] at h
  rw [h.1,encS_inj xs ys h.2]
theorem encP_inj:∀ xs ys:List (Nat × ByteArray),encP.all xs=encP.all ys->xs=ys
 | [],[],_=>rfl
 | [],_ :: _,h=>by simp [Enc.all,encP] at h
 | _ :: _,[],h=>by simp [Enc.all,encP] at h
 | x :: xs,y :: ys,h=>by
  rw [Enc.all_cons,Enc.all_cons] at h
  obtain ⟨h1,h2⟩:=List.append_inj h (by rw [encP.len,encP.len])
  simp only [encP,List.cons.injEq,Value.int.injEq,Value.string.injEq,Int.ofNat_inj,true_and,and_true] at h1
  rw [Prod.ext h1.1 h1.2,encP_inj xs ys h2]
theorem pD_inj {d d':D} (h:pD d=pD d'):d=d':=by
 simp only [pD,List.cons.injEq,PV.v.injEq,Value.int.injEq,Value.bool.injEq,and_true,true_and] at h
 obtain ⟨h1,h2,h3,h4⟩:=h
 obtain ⟨a,b,c,e⟩:=d
 obtain ⟨a',b',c',e'⟩:=d'
 have:=pRow_inj encS_inj h1
 have:=pRow_inj encP_inj h2
 simp only at *
 subst_vars
 have:c=c':=by omega
 rw [this]
theorem pD_app {d d':D} {x y:List PV} (h:pD d++x=pD d'++y):d=d'/\x=y:=by
 have:=List.append_inj h rfl
 exact ⟨pD_inj this.1,this.2⟩
theorem fRead:∀ ps q1 q2,RRead ps q1->RRead ps q2->q1=q2:=by
 rintro ps q1 q2 ⟨d,i,_,rfl,rfl⟩ ⟨d',i',_,h,rfl⟩
 obtain ⟨rfl,h⟩:=pD_app h
 simp at h;subst h;rfl
def Zq8 (ps qs:List PV):Prop:=∃ (d:D) (i:Int) (b:ByteArray),d.ok/\ps=pD d++[pI i,pS b]/\qs=pD (Zel d i b).1++[pB (Zel d i b).2]
def Zr7 (k:Nat):FnE:={ k:=k,ins:=[some 4,none,none],leaks:=[],outs:=[some 4,none],kinds:=[.row,.row,.num,.num,.truth] }
theorem fWrite:∀ ps q1 q2,Zq8 ps q1->Zq8 ps q2->q1=q2:=by
 rintro ps q1 q2 ⟨d,i,b,_,rfl,rfl⟩ ⟨d',i',b',_,h,rfl⟩
 obtain ⟨rfl,h⟩:=pD_app h
 simp at h;obtain ⟨rfl,rfl⟩:=h;rfl

def Zom (ps qs:List PV):Prop:=∃ d:D,d.ok/\ps=pD d/\qs=pD (Zf7 d).1++[pB (Zf7 d).2]
def Zn7 (k:Nat):FnE:={ k:=k,ins:=[some 4],leaks:=[],outs:=[some 4,none],kinds:=[.row,.row,.num,.num,.truth] }
theorem fFlush:∀ ps q1 q2,Zom ps q1->Zom ps q2->q1=q2:=by
 rintro ps q1 q2 ⟨d,_,rfl,rfl⟩ ⟨d',_,h,rfl⟩
 rw [pD_inj h]

end Go.Proofs.YtpnegheknjeljaaGreat.symD
end
end
end
section
/- The disk's contracts for the symbolic engine. -/
namespace Go.Proofs.YtpnegheknjeljaaGreat.symD
open Go Go.RowKit eng dsk
set_option linter.unusedVariables false
set_option linter.unusedSimpArgs false
set_option maxRecDepth 100000

theorem own_reads {α:Type} (E:Enc α) {w:World} {base:Nat} {e:TypeId} {v:Value} {n:Nat} {xs:List α} (h:w.ownsRow base e E.sz v n (E.all xs)) {w2:World} (hw:∀ k,base<=k/\k < w.heap.size->w2.heap[k]?=w.heap[k]?):Reads w2 (pRow E xs) v:=by
 have hr:=(RowE.of_own (E:=E) h).1
 refine (Zng E).2 ?_
 rcases h.2 with ⟨rfl,h0⟩ | ⟨g,cap,cur,rfl,hb,hg,_⟩
 ·obtain ⟨a,c,he,h1,h2,h3⟩:=hr
  have:xs.length=0:=by
   simp only [Value.slice.injEq] at he
   all_goals omega
  have:xs=[]:=List.eq_nil_of_length_eq_zero this
  subst this
  exact RowE.nil E w2
 ·obtain ⟨a,c,he,h1,h2,h3⟩:=hr
  refine ⟨a,c,he,h1,h2,fun hp=>?_⟩
  obtain ⟨b,off,rfl,hlt,h4⟩:=h3 hp
  cases he
  have hs:w2.heap[g]?=w.heap[g]?:=hw g ⟨hb,hlt⟩
  refine ⟨g,0,rfl,?_,fun i u hu=>?_⟩
  ·have:(w2.heap[g]?).isSome=true:=by rw [hs,hg];rfl
   rcases Nat.lt_or_ge g w2.heap.size with hl | hl
   ·exact hl
   ·rw [Array.getElem?_eq_none hl] at this;cases this
  ·rw [<- h4 i u hu]
   simp only [World.cell?,hs]

theorem Zrn {w:World} {u0 u1 u2 u3:Value} {d:D} (h0:Reads w (pRow encS d.last) u0) (h1:Reads w (pRow encP d.wait) u1) (h2:Reads w (pI (d.arm:Int)) u2) (h3:Reads w (pB d.down) u3):IsD w (.agg #[u0,u1,u2,u3]) d:=by
 simp only [Reads] at h2 h3
 rw [h2.1,h3.1]
 exact IsD.mk' ((Zng encS).1 h0) ((Zng encP).1 h1)
theorem own_pD {w w':World} {v:Value} {d:D} (h:OwnD w.heap.size w' v d):∃ u0 u1,v=.agg #[u0,u1,.int .i64 (d.arm:Int),.bool d.down]/\∀ w2:World,(∀ k,w.heap.size<=k/\k < w'.heap.size->w2.heap[k]?=w'.heap[k]?)->Reads w2 (pRow encS d.last) u0/\Reads w2 (pRow encP d.wait) u1:=by
 obtain ⟨vl,vw,rfl,h1,h2⟩:=h
 exact ⟨vl,vw,rfl,fun w2 hw2=>⟨own_reads encS h1 hw2,own_reads encP h2 hw2⟩⟩
theorem fin_DB {f:FuncId} {args:Array Value} {w:World} {FP:Nat->Prop} {E:FnE} {d':D} {b:Bool} (hE:E.outs=[some 4,none]) (hk:E.kinds.all CK.plain=true) (h:Calls Tryz.prog f args w (Zk9 w d' b)):Calls Tryz.prog f args w (RetD E FP w (pD d'++[pB b])):=by
 refine h.mono ?_
 rintro e w' ⟨v,rfl,ho,hex⟩
 obtain ⟨u0,u1,rfl,hr⟩:=own_pD ho
 refine ⟨[u0,u1,.int .i64 (d'.arm:Int),.bool d'.down,.bool b],fun _=>none,rfl,by rw [hE];rfl,Zdt hk,fun i q u hq hu w2 hw2=>?_,by rw [hE];rfl,hex⟩
 obtain ⟨r0,r1⟩:=hr w2 (fun k hk=>hw2 k (.inr hk) (fun _ _ h=>by cases h))
 match i,hq,hu with
 | 0,hq,hu=>simp [pD] at hq hu;subst hq;subst hu;exact r0
 | 1,hq,hu=>simp [pD] at hq hu;subst hq;subst hu;exact r1
 | 2,hq,hu=>simp [pD] at hq hu;subst hq;subst hu;exact Zfr rfl
 | 3,hq,hu=>simp [pD] at hq hu;subst hq;subst hu;exact Zfr rfl
 | 4,hq,hu=>simp [pD] at hq hu;subst hq;subst hu;exact Zfr rfl
 | i+5,hq,hu=>simp [pD] at hq
theorem len4 {us:List Value} (h:us.length=4):∃ a b c d,us=[a,b,c,d]:=by match us,h with | [a,b,c,d],_=>exact ⟨a,b,c,d,rfl⟩
theorem len5 {us:List Value} (h:us.length=5):∃ a b c d e,us=[a,b,c,d,e]:=by match us,h with | [a,b,c,d,e],_=>exact ⟨a,b,c,d,e,rfl⟩
theorem len6 {us:List Value} (h:us.length=6):∃ a b c d e f,us=[a,b,c,d,e,f]:=by match us,h with | [a,b,c,d,e,f],_=>exact ⟨a,b,c,d,e,f,rfl⟩

theorem toldRead (k:Nat):ToldF 124 (ERead k) (spec RRead):=by
 intro w FP us ps qs hs hul hpl hFP hrd
 obtain ⟨d,i,ok,rfl,rfl⟩:=Zah hs
 obtain ⟨a,b,c,e,x,rfl⟩:=len5 hul
 have hd:=Zrn (hrd 0 _ _ rfl rfl).1 (hrd 1 _ _ rfl rfl).1 (hrd 2 _ _ rfl rfl).1 (hrd 3 _ _ rfl rfl).1
 have h4:=(hrd 4 _ _ rfl rfl).1
 simp only [Reads] at h4
 rw [h4.1]
 refine (read_any _ d i w hd ok).mono ?_
 rintro e w' ⟨rfl,hex⟩
 refine ⟨[.string (readD d i).1,.bool (readD d i).2],fun _=>none,rfl,rfl,Zdt rfl,fun j q u hq hu w2 _=>?_,rfl,hex⟩
 match j,hq,hu with
 | 0,hq,hu=>simp at hq hu;subst hq;subst hu;exact Zfr rfl
 | 1,hq,hu=>simp at hq hu;subst hq;subst hu;exact Zfr rfl
 | j+2,hq,hu=>simp at hq

theorem toldWrite (k:Nat):ToldF 55 (Zr7 k) (spec Zq8):=by
 intro w FP us ps qs hs hul hpl hFP hrd
 obtain ⟨d,i,s,ok,rfl,rfl⟩:=Zah hs
 obtain ⟨a,b,c,e,x,y,rfl⟩:=len6 hul
 have hd:=Zrn (hrd 0 _ _ rfl rfl).1 (hrd 1 _ _ rfl rfl).1 (hrd 2 _ _ rfl rfl).1 (hrd 3 _ _ rfl rfl).1
 have h4:=(hrd 4 _ _ rfl rfl).1
 have h5:=(hrd 5 _ _ rfl rfl).1
 simp only [Reads] at h4 h5
 rw [h4.1,h5.1]
 exact fin_DB rfl rfl (write_any _ d i s w hd ok)

theorem toldFlush (k:Nat):ToldF 56 (Zn7 k) (spec Zom):=by
 intro w FP us ps qs hs hul hpl hFP hrd
 obtain ⟨d,ok,rfl,rfl⟩:=Zah hs
 obtain ⟨a,b,c,e,rfl⟩:=len4 hul
 have hd:=Zrn (hrd 0 _ _ rfl rfl).1 (hrd 1 _ _ rfl rfl).1 (hrd 2 _ _ rfl rfl).1 (hrd 3 _ _ rfl rfl).1
 exact fin_DB rfl rfl (flush_any _ d w hd ok)

end Go.Proofs.YtpnegheknjeljaaGreat.symD
end
