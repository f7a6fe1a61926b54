/- What is cut into sectors (package image): sectors, told. -/
import Derived.Test.YtpnegheknjeljaaGreatIws
import Derived.Test.YtpnegheknjeljaaGreatImd
import Derived.Test.YtpnegheknjeljaaGreatSmb
namespace Go.Proofs.YtpnegheknjeljaaGreat.ise
open Go Go.RowKit eng SX Fact fil ima symD sta iws imc
open bip (Zma Zgi)
open dirs (encF cellF FileM)
open fileFronts (Zac)
set_option linter.unusedVariables false
set_option linter.unusedSimpArgs false
set_option maxRecDepth 1000000

def ESec (k:Nat):FnE:={ k:=k,ins:=[some 3],leaks:=[false,false,false],outs:=[none],kinds:=[.row] }
def tabSe (f:FuncId):Option FnE:=cond (Nat.beq f 132) (some (EMayS 1)) none
noncomputable def flSe:=flat (Zat Tryz.prog 105)
def shSe:Shape:=⟨[(0,.agg 3)],[],[some false,some false,none],28,105⟩
def shSeN:Shape:=⟨[],[],[],28,105⟩
def pvSe:Value:=(.iface 9 (.string { data:={ toList:=[UInt8.ofNat 105,UInt8.ofNat 109,UInt8.ofNat 97,UInt8.ofNat 103,UInt8.ofNat 101,UInt8.ofNat 58,UInt8.ofNat 32,UInt8.ofNat 97,UInt8.ofNat 32,UInt8.ofNat 115,UInt8.ofNat 116,UInt8.ofNat 97,UInt8.ofNat 116,UInt8.ofNat 101,UInt8.ofNat 32,UInt8.ofNat 116,UInt8.ofNat 104,UInt8.ofNat 97,UInt8.ofNat 116,UInt8.ofNat 32,UInt8.ofNat 109,UInt8.ofNat 97,UInt8.ofNat 121,UInt8.ofNat 32,UInt8.ofNat 110,UInt8.ofNat 111,UInt8.ofNat 116,UInt8.ofNat 32,UInt8.ofNat 98,UInt8.ofNat 101] } }))
theorem sn:segTo Tryz.prog (orcFn tabSe) 10000 (flSe.take 3) shSe [0] shSeN []=some (.panic pvSe,[.fn 132 (EMayS 1) [.var 0,.var 1,.var 2],.is (.fn 1 [.var 0,.var 1,.var 2] 0) (.bool false)],[]):=by kernel_rfl

@[simp] theorem kSec (k:Nat):(ESec k).k=k:=rfl
theorem Zl8 {s:StM} (h:MayS s):(stB s).length=262:=by
 have:=Zj0 h
 rw [img_st,List.length_append,Zmb] at this
 omega
theorem ofL_eq (l:List UInt8):ofL l=⟨l.toArray⟩:=rfl
theorem cut_sec (bs:List UInt8) (n k:Nat) (h1:bs.length+n=32 * 9) (hk:k < 9) (hn:n < 32):((bs++nul n).drop (32 * k)).take 32=(bs.drop (32 * k)).take 32++List.replicate (32 - min 32 (bs.length - 32 * k)) 0:=by
 rw [List.drop_append,List.take_append,List.length_drop]
 congr 1
 rw [show 32 * k - bs.length=0 by omega,List.drop_zero,nul,List.take_replicate]
 congr 1
 omega
theorem cuts_secs {s:StM} (h:MayS s):cuts (stB s) (Zb2 (stB s).length)=putI s:=by
 have hl:=Zl8 h
 have hi:=Zj0 h
 rw [Zmz h,hl]
 apply List.ext_getElem
 ·simp [cuts,Zb2]
 ·intro i h1 h2
  have h9:i < 9:=by simpa using h2
  rw [Zot,img_st,cut_sec (stB s) 26 i (by omega) h9 (by omega),ofL_eq]
  simp only [cuts,List.getElem_map,List.getElem_range,cut32]
theorem Zku {w W:World} {p:PV} {u:Value} (h:Reads w p u) (g:Ex w W):Reads W p u:=Reads.keep (fun k hk=>g.block k hk) p h
theorem may_pre {s:StM} (h:MayS s):MayPre s:=by
 refine ⟨by rw [h.fl];omega,by rw [h.ml];omega,fun f hf=>?_⟩
 have:=Zeu h hf
 exact ⟨by omega,by omega⟩
theorem may_yes {w:World} {s:StM} {fv mv ep:Value} (hs:MayS s) (h0:Reads w (pRow encF s.files) fv) (h1:Reads w (pRow encM s.marks) mv) (h2:Reads w (pI s.epoch) ep):MayY w (.agg #[fv,mv,ep]):=by
 intro W hE
 have t:=toldMayP 1 W (fun _=>False) [fv,mv,ep] (pSt s) [pB true] (Zap fMayS ⟨s,may_pre hs,rfl,by rw [Zmd.2 hs]⟩) rfl rfl (fun k h=>h.elim) (fun i p u hp hu=>by
  match i,hp,hu with
  | 0,hp,hu =>
   simp [pSt] at hp hu
   subst hp;subst hu
   exact ⟨Zku h0 hE,fun h=>by simp [EMayS] at h⟩
  | 1,hp,hu =>
   simp [pSt] at hp hu
   subst hp;subst hu
   exact ⟨Zku h1 hE,fun h=>by simp [EMayS] at h⟩
  | 2,hp,hu =>
   simp [pSt] at hp hu
   subst hp;subst hu
   exact ⟨Zku h2 hE,fun h=>by simp [EMayS] at h⟩
  | i+3,hp,hu=>simp [pSt] at hp)
 refine t.mono ?_
 rintro e W' ⟨us',ow,hl,_,_,hrd,rfl,hex⟩
 match us',hl with
 | [u],_ =>
  have:=hrd 0 _ u rfl rfl W' (fun _ _ _=>rfl)
  simp only [Reads] at this
  rw [this.1]
  exact ⟨rfl,hex⟩
theorem puts_yes {w:World} {s:StM} {fv mv ep:Value} (hs:MayS s) (h0:Reads w (pRow encF s.files) fv) (h1:Reads w (pRow encM s.marks) mv) (h2:Reads w (pI s.epoch) ep):PutsY w (.agg #[fv,mv,ep]) (stB s):=by
 intro W B hE hB hc
 have hl:=Zl8 hs
 have hsm:small s:=⟨by rw [hs.ml];omega,by rw [hs.fl];omega,fun f hf=>⟨(Zeu hs hf).1,(Zeu hs hf).2.1⟩⟩
 have t:=toldWst 1 W (fun k=>k < w.heap.size) B #[.slice none 0 0] (0,0) [fv,mv,ep] (pSt s++[.row 0 []]) [pBy (stB s)] (Zap fWst ⟨s,[],hsm,by simp,rfl,rfl⟩) rfl rfl rfl hc (fun i _ h=>by omega) (fun k hk=>⟨Nat.lt_of_lt_of_le hk hE.size,by omega⟩) (fun i p u hp hu w2 hw2=>by
  have keep:∀ k,k < w.heap.size->w2.heap[k]?=w.heap[k]?:=fun k hk=>(hw2 k hk).trans (hE.block k hk)
  match i,hp,hu with
  | 0,hp,hu =>
   simp [pSt] at hp hu
   subst hp;subst hu
   exact Reads.keep keep _ h0
  | 1,hp,hu =>
   simp [pSt] at hp hu
   subst hp;subst hu
   exact Reads.keep keep _ h1
  | 2,hp,hu =>
   simp [pSt] at hp hu
   subst hp;subst hu
   exact Reads.keep keep _ h2
  | 3,hp,hu =>
   simp [pSt] at hp hu
   subst hp;subst hu
   simp only [Reads]
   exact ⟨none,0,rfl,Nat.le_refl _,Nat.zero_le _,by simp⟩
  | i+4,hp,hu=>simp [pSt] at hp)
 refine t.mono ?_
 rintro e W' ⟨us',c',fz',ow,hul,hcs,_,hcB,_,how,hrd,rfl,hos,htp,hou,hsz,hbl⟩
 have hus:us'=[]:=List.eq_nil_of_length_eq_zero hul
 subst hus
 have hE':Ex w W':=⟨hos.trans hE.os,htp.trans hE.tape,hou.trans hE.output,Nat.le_trans hE.size hsz,fun k hk=>(hbl k (Nat.lt_of_lt_of_le hk hE.size) (by omega)).trans (hE.block k hk)⟩
 refine ⟨⟨_,rfl⟩,hE',?_⟩
 have hcs1:c'.toList.length=1:=hcs
 obtain ⟨u0,rfl⟩:∃ u0,c'=#[u0]:=by
  match hc':c'.toList,hcs1 with
  | [u0],_=>exact ⟨u0,by rw [<- hc']⟩
 cases ho:ow 0 with
 | none =>
  obtain ⟨_,_,hq⟩:=how.no 0 _ _ _ rfl ho
  simp [pBy] at hq
  rw [hq] at hl
  simp at hl
 | some b2 =>
  obtain ⟨el,sz,may,q,u,hk,hq,hu,⟨g1,g2,n,cap,cs,c,fz,rfl,rfl,g3,g4,g5,g6,g7,g8,g9,g10⟩,_⟩:=how.at' 0 b2 ho
  have hk':CK.own 5 1 true=CK.own el sz may:=by simpa [EWst] using hk
  injection hk' with e1 e2 e3
  subst e1;subst e2;subst e3
  have hq':pBy (stB s)=.row n cs:=by simpa using hq
  have hu':u0=.slice (some ⟨b2,0,none⟩) n cap:=by simpa using hu
  subst hu'
  simp only [pBy,PV.row.injEq] at hq'
  obtain ⟨rfl,rfl⟩:=hq'
  have hB':B < W.heap.size:=(Array.getElem?_eq_some_iff.1 hc).1
  refine ⟨b2,cap,fz',hcB,g2,by omega,g7,g9,fun i u hu=>?_⟩
  have hi:((stB s).map fun b=>PV.v (.int .u8 b.toNat))[i]?=some (.v u):=by
   simp only [byV,List.getElem?_map,Option.map_eq_some_iff] at hu ⊢
   obtain ⟨b,hb,rfl⟩:=hu
   exact ⟨b,hb,rfl⟩
  obtain ⟨v,hv,_,hcv⟩:=g10 i _ hi
  cases hv
  simp [World.cell?,g3,hcv]
theorem reads_texts {w w' w2:World} {v:Value} {l:List ByteArray} (h:w'.ownsRow w.heap.size 9 1 v l.length (stV l)) (hk:∀ k,w.heap.size<=k/\k < w'.heap.size->w2.heap[k]?=w'.heap[k]?):Reads w2 (pRow encS l) v:=by
 have hst:encS.all l=stV l:=by
  clear h
  induction l with
  | nil=>rfl
  | cons x l ih=>rw [Enc.all_cons,ih];rfl
 simp only [pRow,Reads,hst]
 rcases h.2 with ⟨rfl,h0⟩ | ⟨g,cap,cur,rfl,hg,hc,h1,h2,h3,h4⟩
 ·have:l=[]:=List.eq_nil_of_length_eq_zero h0
  subst this
  exact ⟨none,0,rfl,Nat.le_refl _,Nat.zero_le _,.inl rfl⟩
 ·refine ⟨_,cap,rfl,h1,h2,.inr ⟨g,0,rfl,Zbb.of fun i p hp=>?_⟩⟩
  have hgl:=(Array.getElem?_eq_some_iff.1 hc).1
  simp only [List.getElem?_map,Option.map_eq_some_iff] at hp
  obtain ⟨u,hu,rfl⟩:=hp
  refine ⟨u,?_,?_⟩
  ·simp only [World.cell?,hk g ⟨hg,hgl⟩,hc,Nat.zero_add]
   rw [<- h4,List.getElem?_take] at hu
   split at hu
   ·simpa using hu
   ·cases hu
  ·simp only [stV,List.getElem?_map,Option.map_eq_some_iff] at hu
   obtain ⟨t,_,rfl⟩:=hu
   exact ⟨rfl,rfl⟩
def RSec (ps qs:List PV):Prop:=∃ s:StM,MayPre s/\ps=pSt s/\qs=if mayS s=true then [pI 0,pRow encS (putI s)] else [pI 1]
theorem fSec:∀ ps q1 q2,RSec ps q1->RSec ps q2->q1=q2:=by
 rintro ps q1 q2 ⟨s,_,rfl,rfl⟩ ⟨s',_,h,rfl⟩
 simp only [pSt,List.cons.injEq,PV.v.injEq,Value.int.injEq,true_and,and_true] at h
 rw [Znj h.1 h.2.1 h.2.2]
def RSecN (ps qs:List PV):Prop:=∃ s:StM,MayPre s/\mayS s=false/\ps=pSt s/\qs=[pI 1]
theorem fSecN:∀ ps q1 q2,RSecN ps q1->RSecN ps q2->q1=q2:=by
 rintro ps q1 q2 ⟨s,_,_,rfl,rfl⟩ ⟨s',_,_,h,rfl⟩
 rfl
noncomputable def FSe:Fns:=fun k=>match k with | 1=>spec RMayS | _=>fun _=>none
theorem pp1:ToldF 132 (EMayS 1) (FSe 1):=toldMayP 1
theorem toldSecN (k:Nat):ToldX 105 (ESec k) [pvSe] (spec RSecN):=by
 refine Zf4 FSe _ (Zat Tryz.prog 105) Tryz.func105 (by kernel_rfl) shSe (by kernel_rfl) ?_ ?_
 ·intro ps qs h
  obtain ⟨s,_,_,rfl,rfl⟩:=Zah h
  exact Zc0 rfl
 ·intro C ps qs hF h a w hsh
  obtain ⟨s,hp,hn,rfl,rfl⟩:=Zah h
  show wpL Tryz.prog flSe _ a w
  rw [<- List.take_append_drop 3 flSe]
  have g1:FSe 1 [pRow encF s.files,pRow encM s.marks,pI s.epoch]=some [pB false]:=Zap fMayS ⟨s,hp,rfl,by rw [hn]⟩
  refine Zae names_ok mixed_ok (Zar tabSe) sn hsh ?_ (fun qs a1 wd hq hx=>⟨nofun,fun _=>.inr ⟨0,_,_,_,rfl,rfl,rfl,hx⟩⟩)
  simp [-Zac,Zab,Zaa,Base.ev,SX.ev,evs,Value.oneCell',pSt,hF,g1,pp1]
theorem toldSec (k:Nat):ToldX 105 (ESec k) [pvSe] (spec RSec):=by
 intro w FP us ps qs hsp hul hpl hFP hrd
 obtain ⟨s,hp,rfl,hqs⟩:=Zah hsp
 cases hm:mayS s with
 | false =>
  rw [hm,if_neg (by simp)] at hqs
  exact toldSecN k w FP us _ qs (Zap fSecN ⟨s,hp,hm,rfl,hqs⟩) hul hpl hFP hrd
 | true =>
  have hs:=Zmd.1 hm
  rw [hm,if_pos rfl] at hqs
  match us,hul with
  | [fv,mv,ep],_ =>
   have h0:=(hrd 0 _ fv rfl rfl).1
   have h1:=(hrd 1 _ mv rfl rfl).1
   have h2:=(hrd 2 _ ep rfl rfl).1
   have hl:=Zl8 hs
   refine (sectors_yes fv mv ep (stB s) w (by omega) (by omega) (may_yes hs h0 h1 h2) (puts_yes hs h0 h1 h2)).mono ?_
   rintro e w' ⟨v,rfl,hown,hex⟩
   rw [cuts_secs hs,show Zb2 (stB s).length=(putI s).length by rw [Zkv hs,hl];rfl] at hown
   subst hqs
   refine .inl ⟨[pRow encS (putI s)],rfl,[v],fun _=>none,rfl,rfl,Zdt rfl,fun i q u hq hu w2 hw2=>?_,rfl,hex⟩
   match i,hq,hu with
   | 0,hq,hu =>
    simp at hq hu
    subst hq;subst hu
    exact reads_texts hown (fun k hk=>hw2 k (.inr hk) (fun _ _ h=>by cases h))
   | i+1,hq,hu=>simp at hq

end Go.Proofs.YtpnegheknjeljaaGreat.ise
