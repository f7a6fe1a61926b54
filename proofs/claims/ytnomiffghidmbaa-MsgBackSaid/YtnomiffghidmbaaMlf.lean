/- Texts joined. -/
import Derived.Test.YtnomiffghidmbaaMli
import Derived.Test.YtnomiffghidmbaaMkm
section
/- What the laws of layer 16 stand on: what is made of numbers, what is asked and told, by contracts. -/
namespace Go.Proofs.Ytnomiffghidmbaa.mlw
open Go Go.RowKit eng SX Fact fil ima msm
open pck (OkP encU)
open mws (aP ESa RSa fSa)
open mas (AOk EMa RMa fMa)
open myt (tP TOk EMt RMt fMt)
open mpa (EPa RPa fPa)
open mpt (EPt RPt fPt)
open mtk (EKa RKa fKa EKt RKt fKt tkA tkT tgA tgT a00 t00)
open mka2 (EAk RAk fAk toldAk mkA)
open mkt (EMk RMk fMk toldMk mkT Znq)
open mkm (Zlo Zlp may_tok)
set_option linter.unusedVariables false
set_option maxRecDepth 1000000
theorem told_rowP {f:FuncId} {E E':PtrE} {R:List PV->Option (List PV)} (h:ToldP f E R) (h1:E'.ins=E.ins) (h2:E'.elem=E.elem) (h3:E'.outs=E.outs) (h4:E'.cells=E.cells) (h5:E'.kinds.all CK.plain=true):ToldP f E' R:=by
 obtain ⟨k,el,ce,i,o,ks⟩:=E
 obtain ⟨k',el',ce',i',o',ks'⟩:=E'
 simp only at h1 h2 h3 h4 h5
 subst h1 h2 h3 h4
 intro w FP b c fz us ps qs a1 a2 a3 a4 a5 a6 a7 a8
 refine (h w FP b c fz us ps qs a1 a2 a3 a4 a5 a6 a7 a8).mono ?_
 rintro e w' ⟨us',c',fz',ow,g1,g2,g3,g4,g5,how,g6,g7⟩
 exact ⟨us',c',fz',fun _=>none,g1,g2,g3,g4,g5,Ze5 h5,fun i q u hq hu w2 hw2=>g6 i q u hq hu w2 (fun k hk _=>hw2 k hk (fun _ _=>by simp)),g7⟩
def EAkR (k:Nat):PtrE:={ k:=k,elem:=52,cells:=2,ins:=[],outs:=[some 8],kinds:=[.num,.num,.num,.num,.num,.num,.num,.row,.row,.num] }
def tabF (f:FuncId):Option FnE:=cond (Nat.beq f 8) (some (ETrue 1)) (cond (Nat.beq f 15) (some (EPa 2)) (cond (Nat.beq f 21) (some (EPt 3)) (cond (Nat.beq f 23) (some (EKa 4)) (cond (Nat.beq f 25) (some (EKt 5)) (cond (Nat.beq f 17) (some (ESa 6)) (cond (Nat.beq f 18) (some (ESa 7)) none))))))
def tabFP (f:FuncId):Option PtrE:=cond (Nat.beq f 11) (some (EAkR 8)) (cond (Nat.beq f 12) (some (EMk 9)) none)
def orcL:Orc:=orcOr (orcFn tabF) (orcP tabFP)
noncomputable def G:Fns:=fun k=>match k with | 1=>spec RTrue | 2=>spec RPa | 3=>spec RPt | 4=>spec RKa | 5=>spec RKt | 6=>spec RSa | 7=>spec RSa | 8=>spec RAk | 9=>spec RMk | _=>fun _=>none
theorem u1:ToldF 8 (ETrue 1) (G 1):=mli.begunLit 1
theorem u2:ToldF 15 (EPa 2) (G 2):=mat.toldPaP 2
theorem u3:ToldF 21 (EPt 3) (G 3):=mat.toldPtP 3
theorem u4:ToldF 23 (EKa 4) (G 4):=mtk.toldKa 4
theorem u5:ToldF 25 (EKt 5) (G 5):=mtk.toldKt 5
theorem u6:ToldF 17 (ESa 6) (G 6):=meq.toldSe 6
theorem u7:ToldF 18 (ESa 7) (G 7):=mws.toldSa 7
theorem u8:ToldP 11 (EAkR 8) (G 8):=told_rowP (toldAk 8) rfl rfl rfl rfl rfl
theorem u9:ToldP 12 (EMk 9) (G 9):=toldMk 9
theorem Zg5:OrcOk Try.prog orcL:=Zg4 (Zae tabF) (Zbn tabFP)
@[simp] theorem kT1 (k:Nat):(ETrue k).k=k:=rfl
@[simp] theorem kP2 (k:Nat):(EPa k).k=k:=rfl
@[simp] theorem kP3 (k:Nat):(EPt k).k=k:=rfl
@[simp] theorem kK4 (k:Nat):(EKa k).k=k:=rfl
@[simp] theorem kK5 (k:Nat):(EKt k).k=k:=rfl
@[simp] theorem kS6 (k:Nat):(ESa k).k=k:=rfl
@[simp] theorem kA8 (k:Nat):(EAkR k).k=k:=rfl
@[simp] theorem kM9 (k:Nat):(EMk k).k=k:=rfl
theorem G1:G 1 []=some [pB true]:=Zah fTrue ⟨rfl,rfl⟩
theorem ok0 {l:List Nat} (h:l.length<=20) (hb:∀ b ∈ l,b < 256):OkP l 0:=⟨by omega,by omega,hb⟩
theorem G8 {l:List Nat} {n:Nat} (h:OkP l n):G 8 [pRow encU l,pI (n:Int)]=some (aP (mkA l n).1++[pRow encU l,pI ((mkA l n).2:Int)]):=Zah fAk ⟨n,l,h,rfl,rfl⟩
theorem G9 {l:List Nat} {n:Nat} (h:OkP l n):G 9 [pRow encU l,pI (n:Int)]=some (tP (mkT l n).1++[pRow encU l,pI ((mkT l n).2:Int)]):=Zah fMk ⟨n,l,h,rfl,rfl⟩
theorem G8z {l:List Nat} (h:OkP l 0):G 8 [pRow encU l,pI 0]=some (aP (mkA l 0).1++[pRow encU l,pI ((mkA l 0).2:Int)]):=G8 h
theorem G9z {l:List Nat} (h:OkP l 0):G 9 [pRow encU l,pI 0]=some (tP (mkT l 0).1++[pRow encU l,pI ((mkT l 0).2:Int)]):=G9 h
theorem G2 {a:AskM} (h:mayA a=true):G 2 (aP a)=some [pBy (putA a)]:=Zah fPa ⟨a,Zlp h,rfl,rfl⟩
theorem G3 {a:TellM} (h:mayT a=true):G 3 (tP a)=some [pBy (putT a)]:=Zah fPt ⟨a,may_tok h,rfl,rfl⟩
theorem G4 {b:List UInt8} (h:b.length<=1000000):G 4 [pBy b]=some (tkA b):=Zah fKa ⟨b,h,rfl,rfl⟩
theorem G5 {b:List UInt8} (h:b.length<=1000000):G 5 [pBy b]=some (tkT b):=Zah fKt ⟨b,h,rfl,rfl⟩
theorem G6 {a b:AskM} (h:mayA a=true) (h':mayA b=true):G 6 (aP a++aP b)=some [pB (decide (a=b))]:=Zah fSa ⟨a,b,(Zlp h).len,(Zlp h').len,rfl,rfl⟩
theorem G7 {a b:AskM} (h:mayA a=true) (h':mayA b=true):G 7 (aP a++aP b)=some [pB (decide (a=b))]:=Zah fSa ⟨a,b,(Zlp h).len,(Zlp h').len,rfl,rfl⟩
theorem tkA_some {b:List UInt8} {a:AskM} (h:takeA b=some a):tkA b=aP a++[pB true]:=by show tgA (takeA b)=_;rw [h];rfl
theorem tkA_none {b:List UInt8} (h:takeA b=none):tkA b=aP a00++[pB false]:=by show tgA (takeA b)=_;rw [h];rfl
theorem tkT_some {b:List UInt8} {a:TellM} (h:takeT b=some a):tkT b=tP a++[pB true]:=by show tgT (takeT b)=_;rw [h];rfl
theorem tkT_none {b:List UInt8} (h:takeT b=none):tkT b=tP t00++[pB false]:=by show tgT (takeT b)=_;rw [h];rfl
def sumW:List WrM->Nat
 | []=>0
 | w :: l=>2+w.2.size+sumW l
theorem sumW_len:∀ l:List WrM,((l.map wrB).flatten).length=sumW l
 | []=>rfl
 | w :: l=>by
  rw [List.map_cons,List.flatten_cons,List.length_append,sumW_len l]
  simp only [sumW,wrB,List.length_append,Zdw,Zgs]
  omega
theorem putA_len {a:AskM} (h:mayA a=true):(putA a).length=16+a.name.size+sumW a.writes:=by
 rw [putA,if_pos h]
 simp only [sealB,askB,List.length_append,Zdw,Zgs,sumW_len]
 omega
theorem putT_len {a:TellM} (h:mayT a=true):(putT a).length=20+a.body.size:=by
 rw [putT,if_pos h]
 simp [sealB,tellB,Zgs]
 omega
theorem sumW_small:∀ {l:List WrM},(∀ w ∈ l,okWr w=true)->sumW l<=26 * l.length
 | [],_=>by simp [sumW]
 | w :: l,h=>by
  have h1:=sumW_small (l:=l) (fun x hx=>h x (by simp [hx]))
  have h2:=(Zk3 (h w (by simp))).2.2.2
  simp [sumW]
  omega
end Go.Proofs.Ytnomiffghidmbaa.mlw
end
section
/- A row of bytes that is not the callee's to keep: of what is none. -/
namespace Go.Proofs.Ytnomiffghidmbaa.mlf
open Go Go.RowKit eng SX Fact fil ima msm mlw
open mws (aP)
open myt (tP)
open mtk (EKa RKa EKt RKt tkA tkT tgA tgT a00 t00)
set_option linter.unusedVariables false
set_option maxRecDepth 1000000
theorem reads_by {w w2:World} {b:Nat}:∀ {l:List UInt8} {off:Nat},Za8 w b (l.map fun x=>PV.v (.int .u8 x.toNat)) off->(l ≠ []->w2.heap[b]?=w.heap[b]?)->Za8 w2 b (l.map fun x=>PV.v (.int .u8 x.toNat)) off
 | [],off,_,_=>by simp [Za8]
 | x :: l,off,h,hb=>by
  simp only [List.map_cons,Za8] at h ⊢
  obtain ⟨⟨u,hu,hr⟩,h2⟩:=h
  have hb':=hb (by simp)
  refine ⟨⟨u,?_,?_⟩,reads_by h2 (fun _=>hb')⟩
  ·rw [<- hu];simp only [World.cell?];rw [hb']
  ·simpa only [Reads] using hr
theorem reads_foot {w:World} {l:List UInt8} {u:Value} (h:Reads w (pBy l) u):∃ B:Nat->Prop,(∀ k,B k->k < w.heap.size)/\∀ w2:World,(∀ k,B k->w2.heap[k]?=w.heap[k]?)->Reads w2 (pBy l) u:=by
 simp only [pBy,Reads] at h
 obtain ⟨a,cap,rfl,h1,h2,h3⟩:=h
 cases l with
 | nil=>exact ⟨fun _=>False,fun k h=>h.elim,fun w2 _=>by simp only [pBy,Reads];exact ⟨a,cap,rfl,h1,h2,.inl rfl⟩⟩
 | cons x l =>
  rcases h3 with h3 | ⟨b,off,rfl,hr⟩
  ·simp at h3
  ·refine ⟨fun k=>k=b,?_,fun w2 hw=>by simp only [pBy,Reads];exact ⟨_,cap,rfl,h1,h2,.inr ⟨b,off,rfl,reads_by hr (fun _=>hw b rfl)⟩⟩⟩
   rintro k rfl
   simp only [List.map_cons,Za8] at hr
   obtain ⟨⟨u,hu,_⟩,_⟩:=hr
   simp only [World.cell?] at hu
   by_cases hk:k < w.heap.size
   ·exact hk
   ·rw [Array.getElem?_eq_none (by omega)] at hu
    simp at hu
theorem told_free {f:FuncId} {E E':FnE} {R R':List PV->Option (List PV)} (h:ToldF f E R) (h1:E'.ins=E.ins) (h2:E'.outs=E.outs) (h3:E'.kinds.all CK.plain=true)
  (hs:∀ ps qs,R' ps=some qs->R ps=some qs/\(∃ l,ps=[pBy l])/\∀ q ∈ qs,(∃ x,q=.v x) \/ q=.row 0 []):ToldF f E' R':=by
 intro w FP us ps qs hsp hul hpl hFP hrd
 obtain ⟨g1,⟨l,rfl⟩,g3⟩:=hs _ _ hsp
 obtain ⟨u,rfl⟩:∃ u,us=[u]:=by
  match us,hul with
  | [u],_=>exact ⟨u,rfl⟩
 obtain ⟨B,hB,hBr⟩:=reads_foot (hrd 0 _ u rfl rfl).1
 rw [h1] at hpl ⊢
 refine (h w (fun k=>FP k \/ B k) [u] [pBy l] qs g1 rfl hpl (fun k hk=>hk.elim (hFP k) (hB k)) (fun i p v hp hv=>?_)).mono ?_
 ·match i,hp,hv with
  | 0,hp,hv =>
   simp at hp hv
   subst hp;subst hv
   exact ⟨(hrd 0 _ u rfl rfl).1,fun _ w2 hw=>hBr w2 (fun k hk=>hw k (.inr hk))⟩
  | i+1,hp,hv=>simp at hp
 ·rintro e w' ⟨us',ow,e1,e2,e3,e4,e5,e6⟩
  refine ⟨us',fun _=>none,e1,by rw [h2];exact e2,Ze5 h3,fun i q v hq hv w2 _=>?_,by rw [h2];exact e5,e6⟩
  have hr:=e4 i q v hq hv w' (fun _ _ _=>rfl)
  rcases g3 q (List.mem_of_getElem? hq) with ⟨x,rfl⟩ | rfl
  ·simpa only [Reads] using hr
  ·simp only [Reads] at hr ⊢
   obtain ⟨a,cap,r1,r2,r3,_⟩:=hr
   exact ⟨a,cap,r1,r2,r3,by simp⟩
def EKaF (k:Nat):FnE:={ k:=k,ins:=[none],leaks:=[false],outs:=[some 8,none],kinds:=[.num,.num,.num,.num,.num,.num,.num,.row,.truth] }
def EKtF (k:Nat):FnE:={ k:=k,ins:=[none],leaks:=[false],outs:=[some 9,none],kinds:=[.num,.num,.num,.num,.num,.num,.num,.num,.num,.truth] }
def RKaF (ps qs:List PV):Prop:=∃ b:List UInt8,b.length<=1000000/\takeA b=none/\ps=[pBy b]/\qs=aP a00++[pB false]
def RKtF (ps qs:List PV):Prop:=∃ b:List UInt8,b.length<=1000000/\takeT b=none/\ps=[pBy b]/\qs=tP t00++[pB false]
theorem fKaF:∀ ps q1 q2,RKaF ps q1->RKaF ps q2->q1=q2:=by
 rintro ps q1 q2 ⟨_,_,_,_,rfl⟩ ⟨_,_,_,_,rfl⟩;rfl
theorem fKtF:∀ ps q1 q2,RKtF ps q1->RKtF ps q2->q1=q2:=by
 rintro ps q1 q2 ⟨_,_,_,_,rfl⟩ ⟨_,_,_,_,rfl⟩;rfl
theorem toldKaF (k:Nat):ToldF 23 (EKaF k) (spec RKaF):=by
 refine told_free (mtk.toldKa k) rfl rfl rfl ?_
 intro ps qs h
 obtain ⟨b,hb,hn,rfl,rfl⟩:=Zaf h
 refine ⟨Zah mtk.fKa ⟨b,hb,rfl,(tkA_none hn).symm⟩,⟨b,rfl⟩,fun q hq=>?_⟩
 simp only [aP,a00,List.cons_append,List.nil_append,List.mem_cons,List.not_mem_nil,or_false] at hq
 rcases hq with rfl | rfl | rfl | rfl | rfl | rfl | rfl | rfl | rfl <;> first | exact .inl ⟨_,rfl⟩ | exact .inr rfl
theorem toldKtF (k:Nat):ToldF 25 (EKtF k) (spec RKtF):=by
 refine told_free (mtk.toldKt k) rfl rfl rfl ?_
 intro ps qs h
 obtain ⟨b,hb,hn,rfl,rfl⟩:=Zaf h
 refine ⟨Zah mtk.fKt ⟨b,hb,rfl,(tkT_none hn).symm⟩,⟨b,rfl⟩,fun q hq=>?_⟩
 simp only [tP,t00,List.cons_append,List.nil_append,List.mem_cons,List.not_mem_nil,or_false] at hq
 rcases hq with rfl | rfl | rfl | rfl | rfl | rfl | rfl | rfl | rfl | rfl <;> exact .inl ⟨_,rfl⟩
end Go.Proofs.Ytnomiffghidmbaa.mlf
end
