/- Texts joined. -/
import Derived.Test.YtefkakjegdjojaaGreatIrm
import Derived.Test.YtefkakjegdjojaaGreatIjn
section
/- Texts joined. -/
section
/- Take of package image: told. -/
namespace Go.Proofs.YtefkakjegdjojaaGreat.iti
open Go Go.RowKit eng SX Fact fil ima symD sta ise idf ieq ijn irs bip ird
open dirs (encF cellF FileM)
open fileFronts (Zae)
set_option linter.unusedVariables false
set_option linter.unusedSimpArgs false
set_option maxRecDepth 1000000

def ETi (k:Nat):FnE:={ k:=k,ins:=[none],leaks:=[false],outs:=[some 3,none],kinds:=[.row,.row,.num,.truth] }
def tabTF (f:FuncId):Option FnE:=cond (Nat.beq f 64) (some (EJn 1)) (cond (Nat.beq f 66) (some (ESq 2)) none)
def tabTX (f:FuncId):Option (FnE × List Value):=cond (Nat.beq f 63) (some (EMf 3,[pvMf])) (cond (Nat.beq f 60) (some (ESec 4,[pvSe])) none)
def tabTQ (f:FuncId):Option (PtrE × List Value):=cond (Nat.beq f 65) (some (irs.ESt 5,[pvRd,anyV])) none
def orcT:Orc:=orcOr (orcFn tabTF) (orcOr (orcX tabTX) (orcQ tabTQ))
def isCv:Op->Bool | .convert ..=>true | _=>false
def hCv (_:FuncId) (o:Oper):Option Hint:=cond (isCv o.op) (some .still) none
@[simp] def Zle:SX:=rop ROp.ofStr [.fn 1 [.var 0,.con (.string { data:={ toList:=[] } })] 0]
@[simp] def zGreatIti2:List SX:=[.fn 5 [Zle] 1,.fn 5 [Zle] 2,.fn 5 [Zle] 3]
@[simp] def Zsl:List SX:=[.var 0,.con (.string { data:={ toList:=[] } })]
@[simp] def zGreatIti4:Fact:=Fact.fq 65 (irs.ESt 5) [pvRd,.tuple { toList:=[] }] [Zle]
@[simp] def zGreatIti5:List SX:=[.lit 0 [],.lit 0 [],.con (.int .i64 0),.con (.bool false)]
@[simp] def zGreatIti6:Fact:=Fact.fx 63 (EMf 3) [pvMf] [.var 0]
@[simp] def zGreatIti7:Fact:=upto (.slen (.fn 1 Zsl 0)) 4294967296
theorem t1:runTo Tryz.prog orcT 10000 23 (ETi 6) [.row] [1] hCv=some ([zGreatIti6,.is (.fn 3 [.var 0] 0) (.int .i64 1)],zGreatIti5):=by kernel_rfl
theorem t2:runTo Tryz.prog orcT 10000 23 (ETi 6) [.row] [0,1] hCv=some ([zGreatIti6,.is (.fn 3 [.var 0] 0) (.int .i64 0),.fn 64 (EJn 1) Zsl,.ok (.fn 1 Zsl 0),zGreatIti7,zGreatIti4,.is (.fn 5 [Zle] 0) (.int .i64 1)],zGreatIti5):=by kernel_rfl
@[simp] theorem holds_fxT (B:Base) (f:FuncId) (E:FnE) (pans:List Value) (es:List SX):(Fact.fx f E pans es).holds B ↔ ToldX f E pans (B.F E.k)/\∃ ps qs,evs B.s B.F es=some ps/\B.F E.k ps=some qs:=Iff.rfl
@[simp] theorem kTi (k:Nat):(ETi k).k=k:=rfl
@[simp] theorem kSeT (k:Nat):(ESec k).k=k:=rfl
@[simp] theorem kStT (k:Nat):(irs.ESt k).k=k:=rfl
noncomputable def FT:Fns:=fun k=>match k with | 1=>spec RJn | 2=>spec RSq | 3=>spec RMf | 4=>spec RSec | 5=>spec RRs | _=>fun _=>none
theorem pt1:ToldF 64 (EJn 1) (FT 1):=toldJn 1
theorem pt2:ToldF 66 (ESq 2) (FT 2):=toldSq 2
theorem pt3:ToldX 63 (EMf 3) [pvMf] (FT 3):=toldMf 3
theorem pt4:ToldX 60 (ESec 4) [pvSe] (FT 4):=Zwk 4
theorem pt5:ToldQ 65 (irs.ESt 5) [pvRd,.tuple { toList:=[] }] (FT 5):=toldSt 5
def ansT:Option StM->List PV
 | some s=>pSt s++[pB true]
 | none=>[.row 0 [],.row 0 [],pI 0,pB false]
theorem full_iff {l:List ByteArray}:full l=true ↔ ∀ a ∈ l,a.size=32:=by simp [full]

end Go.Proofs.YtefkakjegdjojaaGreat.iti
end
section
/- The region of image.Take's closure in which sectors panics, by hand. -/
namespace Go.Proofs.YtefkakjegdjojaaGreat.itd
open Go Go.RowKit eng SX Fact fil ima symD
set_option maxRecDepth 100000
set_option linter.unusedVariables false
set_option linter.unusedSimpArgs false

noncomputable def flT:=flat (Zar Tryz.prog 62)
def ops3 : Array Oper := #[{ dst := some 11, op := .load 30 (.tmp 2), type := 30, pos := "image.go:33", after := #[], guard := none }, { dst := some 12, op := .call { callee := .value (.func 60), args := #[.tmp 11], argTypes := #[30] }, type := 23, pos := "image.go:33", after := #[{ on := 0, ground := .data }], guard := none }, { dst := some 13, op := .load 23 (.tmp 0), type := 23, pos := "image.go:33", after := #[], guard := none }, { dst := some 14, op := .call { callee := .value (.func 66), args := #[.tmp 12, .tmp 13], argTypes := #[23, 23] }, type := 4, pos := "image.go:33", after := #[{ on := 1, ground := .data }, { on := 2, ground := .data }, { on := 1, ground := .chain }], guard := none }, { dst := some 15, op := .unOp .not 4 (.tmp 14), type := 4, pos := "image.go:33", after := #[{ on := 3, ground := .data }], guard := none }]
theorem at3:nth flT 3=.region 3 ops3 true:=by kernel_rfl
theorem reg3 {Q:Exit->Act->World->Prop} {pv:Value} {p0 p2:Nat} {lv v1 v2 v3:Value} {ds:List Deferred} {u1 u3 u4 u5 u6 u7 u8 u9 u10 u11 u12 u13 u14 u15 u16 u17:Value} {w:World}
  (c0:w.cell? ⟨p0,0,none⟩=some lv) (d0:w.cell? ⟨p2,0,none⟩=some v1) (d1:w.cell? ⟨p2,1,none⟩=some v2) (d2:w.cell? ⟨p2,2,none⟩=some v3)
  (hS:Calls Tryz.prog 60 #[.agg #[v1,v2,v3]] w.drew fun e W'=>e=.panicked [{ v:=pv,recovered:=false }]/\Ex w W')
  (hQ:∀ (t:Array Value) W',t.size=18->Ex w W'->Q (.panic [{ v:=pv,recovered:=false }]) ⟨t,ds⟩ W') :
  (nth flT 3).wp Tryz.prog Q ⟨#[.pointer (some ⟨p0,0,none⟩),u1,.pointer (some ⟨p2,0,none⟩),u3,u4,u5,u6,u7,u8,u9,u10,u11,u12,u13,u14,u15,u16,u17],ds⟩ w:=by
 rw [at3]
 unfold ops3
 have HS:=Lib.hid hS
 have HQ:=Lib.hid hQ
 clear hS hQ
 refine wp_region_any Zac ?_
 change wpAny _ _ _ _ _ _ _ (World.drew _)
 have c0:w.drew.cell? ⟨p0,0,none⟩=some lv:=c0
 have d0:w.drew.cell? ⟨p2,0,none⟩=some v1:=d0
 have d1:w.drew.cell? ⟨p2,1,none⟩=some v2:=d1
 have d2:w.drew.cell? ⟨p2,2,none⟩=some v3:=d2
 refine wpAny_ready (rs:=[0,2]) (by kernel_rfl) (by simp) ?_
 refine AllReady.cons rfl (fun K hK=>?_) (AllReady.cons rfl (fun K hK=>?_) AllReady.nil)
 ·go_simp;refine hK _ _ ?_;clear hK K
  refine wpAny_ready (rs:=[1,2]) (by kernel_rfl) (by simp) ?_
  refine AllReady.cons rfl (fun K hK=>?_) (AllReady.cons rfl (fun K hK=>?_) AllReady.nil)
  ·go_simp;refine HS.out.mono ?_;rintro e W ⟨rfl,hE⟩;exact HQ.out _ _ rfl hE
  ·go_simp;refine hK _ _ ?_;clear hK K
   refine wpAny_ready (rs:=[1]) (by kernel_rfl) (by simp) ?_
   refine AllReady.cons rfl (fun K hK=>?_) AllReady.nil
   go_simp;refine HS.out.mono ?_;rintro e W ⟨rfl,hE⟩;exact HQ.out _ _ rfl hE
 ·go_simp;refine hK _ _ ?_;clear hK K
  refine wpAny_ready (rs:=[0]) (by kernel_rfl) (by simp) ?_
  refine AllReady.cons rfl (fun K hK=>?_) AllReady.nil
  go_simp;refine hK _ _ ?_;clear hK K
  refine wpAny_ready (rs:=[1]) (by kernel_rfl) (by simp) ?_
  refine AllReady.cons rfl (fun K hK=>?_) AllReady.nil
  go_simp;refine HS.out.mono ?_;rintro e W ⟨rfl,hE⟩;exact HQ.out _ _ rfl hE
theorem shape_ex {C:Base} {sh:Shape} {ps:List PV} {a a':Act} {w w':World} (h:Zah C sh ps a w) (hs:sh.slots=[]) (hsz:a'.tmps.size=a.tmps.size) (hd:a'.defers=a.defers) (he:Ex w w'):Zah C sh ps a' w':=by
 obtain ⟨x,st,m,hc,hl,hat⟩:=h
 have hx:x.tm=.nil:=by
  unfold canon at hc
  simp only [Option.bind_eq_some_iff] at hc
  obtain ⟨⟨xs,r⟩,_,⟨css,r'⟩,_,hc⟩:=hc
  rw [hs] at hc
  cases hb:(r'.isEmpty && small (List.map (·.1) ([]:List (Nat × Pt))) && Nat.blt (sh.boxes.length+sh.rows.length) 16777215 && Zqn sh.boxes sh.rows.length) with
  | false=>simp only [hb,cond_false] at hc;cases hc
  | true =>
   simp only [hb,cond_true,Option.some.injEq,Prod.mk.injEq] at hc
   rw [<- hc.1]
   cases xs <;> rfl
 refine ⟨x,st,m,hc,hl,⟨(step_ex (Tc:=fun _=>False) hat.rel he).rel,hat.fresh,⟨by rw [hsz];exact hat.tm.size,fun t y hy=>?_,by rw [hd];exact hat.tm.defers⟩⟩⟩
 rw [hx] at hy
 simp [T.get] at hy
theorem at_box {B:Base} {m:Map} {x:AAct} {st:St} {a:Act} {w:World} (hat:At B m x st a w) {t r n:Nat} {o:ARoot} (ht:x.tm.get t=some (.ptr r 0 0 0 0)) (ho:st.heap.get r=some o) (hv:(0,n) ∈ o.vers) (hm:o.mp=false) :
  ∃ b,a.tmps[t]?=some (.pointer (some ⟨b,0,none⟩))/\∀ i y,i < n->o.cells[i]?=some y->∃ v,y.den m=some v/\w.cell? ⟨b,i,none⟩=some v:=by
 obtain ⟨v,hv1,hv2⟩:=hat.tm.get _ _ ht
 obtain ⟨bb,hb,hB⟩:=hat.rel.blk r o trivial ho 0 n hv
 simp only [AV.den,hb,Option.map_some,Option.some.injEq] at hv1
 subst hv1
 obtain ⟨c,fz,h1,h2,h3,h4,h5,h6⟩:=hB.c hm
 exact ⟨bb.1,hv2,fun i y hi hy=>by
  obtain ⟨v,hd,hc⟩:=h5 i y hi hy
  exact ⟨v,hd,by simp [World.cell?,h1,hc]⟩⟩
end Go.Proofs.YtefkakjegdjojaaGreat.itd
end
end
section
/- The closure in image.Take, and Take: told, whatever the sectors. -/
namespace Go.Proofs.YtefkakjegdjojaaGreat.itc
open Go Go.RowKit eng SX Fact fil ima symD sta ise idf ieq ijn irs bip ird iti
open dirs (encF cellF FileM)
open fileFronts (Zae)
set_option linter.unusedVariables false
set_option linter.unusedSimpArgs false
set_option maxRecDepth 1000000

def ETc (k:Nat):PtrE:={ k:=k,elem:=23,cells:=1,ins:=[],outs:=[some 3],kinds:=[.row,.row,.num,.row] }
def lbx:BoxT:=⟨23,0,false,[.leaf],none,true⟩
def rsx:BoxT:=⟨30,0,false,[.nil,.nil,.leaf],none,false⟩
def sbx:BoxT:=⟨30,0,false,[.leaf,.leaf,.leaf],none,false⟩
noncomputable def flT:=flat (Zar Tryz.prog 62)
def sh0:Shape:=⟨[(0,.ptr 0 0 0 0)],[lbx],[some true],18,62⟩
def shP:Shape:=⟨[],[lbx],[some true],18,62⟩
def shC:Shape:=⟨[(0,.ptr 0 0 0 0),(1,.ptr 1 0 0 0),(2,.ptr 2 0 0 0)],[lbx,rsx,sbx],[some true,none,some false,some false,none],18,62⟩
def shR:Shape:=⟨[(1,.ptr 1 0 0 0)],[lbx,sbx],[some true,some true,some true,none],18,62⟩
def pvNt:Value:=.iface 9 (.string ⟨⟨[105,109,97,103,101,58,32,110,111,116,32,97,115,32,105,116,32,119,111,117,108,100,32,98,101,32,112,117,116]⟩⟩)
def ETj (k:Nat):FnE:={ k:=k,ins:=[none],leaks:=[true],outs:=[some 3,none],kinds:=[.row,.row,.num,.truth] }
def pansT:List Value:=[pvMf,pvRd,anyV,pvSe,pvNt]
def tab73 (f:FuncId):Option (PtrE × List Value):=cond (Nat.beq f 62) (some (ETc 1,pansT)) none
@[simp] def Zb7:SX:=rop ROp.ofStr [.fn 1 [.var 0,.con (.string { data:={ toList:=[] } })] 0]
@[simp] def Zdf:List SX:=[.var 0,.con (.string { data:={ toList:=[] } })]
@[simp] def Zgc:List SX:=[.fn 5 [Zb7] 1,.fn 5 [Zb7] 2,.fn 5 [Zb7] 3]
@[simp] def Zi7:Fact:=Fact.fq 62 (ETc 1) [pvMf,pvRd,.tuple { toList:=[] },pvSe,pvNt] [.var 0]
@[simp] def Zli:Fact:=Fact.fq 65 (irs.ESt 5) [pvRd,.tuple { toList:=[] }] [Zb7]
@[simp] def Zlh:List SX:=[.lit 0 [],.lit 0 [],.con (.int .i64 0),.con (.bool false)]
@[simp] def Zlg:Fact:=upto (.slen (.fn 1 Zdf 0)) 4294967296
@[simp] def Zi6:Fact:=Fact.fx 63 (EMf 3) [pvMf] [.var 0]
@[simp] def Zlf:Fact:=.is (.fn 3 [.var 0] 0) (.int .i64 0)
@[simp] def Zj9:Fact:=.ok (.fn 5 [Zb7] 3)
@[simp] def Zq5:Fact:=.is (.fn 5 [Zb7] 0) (.int .i64 0)
theorem c1:segTo Tryz.prog orcT 10000 flT sh0 [1] shP [(0,0)] iti.hCv=some (.panic pvMf,[Zi6,.is (.fn 3 [.var 0] 0) (.int .i64 1)],[.var 0]):=by kernel_rfl
theorem c2:segTo Tryz.prog orcT 10000 flT sh0 [0,1] shP [(0,0)] iti.hCv=some (.panic pvRd,[Zi6,Zlf,.fn 64 (EJn 1) Zdf,.ok (.fn 1 Zdf 0),Zlg,Zli,.is (.fn 5 [Zb7] 0) (.int .i64 1)],[.var 0]):=by kernel_rfl
theorem c2u:segU Tryz.prog orcT 10000 flT sh0 [0,2] shP [(0,0)] iti.hCv=some (.panic (.tuple { toList:=[] }),[Zi6,Zlf,.fn 64 (EJn 1) Zdf,.ok (.fn 1 Zdf 0),Zlg,Zli,.is (.fn 5 [Zb7] 0) (.int .i64 2)],[.var 0]):=by kernel_rfl
theorem c5:segTo Tryz.prog orcT 10000 flT sh0 [0,0,0,1] shR [(0,0),(2,0)] iti.hCv=some (.ret,[Zi6,Zlf,.fn 64 (EJn 1) Zdf,.ok (.fn 1 Zdf 0),Zlg,Zli,Zq5,Zj9,Fact.fx 60 (ESec 4) [pvSe] Zgc,.is (.fn 4 Zgc 0) (.int .i64 0),.fn 66 (ESq 2) [.fn 4 Zgc 1,.var 0],.is (.fn 2 [.fn 4 Zgc 1,.var 0] 0) (.bool true),Zj9],[.var 0,.fn 5 [Zb7] 1,.fn 5 [Zb7] 2,.fn 5 [Zb7] 3]):=by kernel_rfl
theorem c4:segTo Tryz.prog orcT 10000 flT sh0 [0,0,0,0] shP [(0,0)] iti.hCv=some (.panic pvNt,[Zi6,Zlf,.fn 64 (EJn 1) Zdf,.ok (.fn 1 Zdf 0),Zlg,Zli,Zq5,Zj9,Fact.fx 60 (ESec 4) [pvSe] Zgc,.is (.fn 4 Zgc 0) (.int .i64 0),.fn 66 (ESq 2) [.fn 4 Zgc 1,.var 0],.is (.fn 2 [.fn 4 Zgc 1,.var 0] 0) (.bool false)],[.var 0]):=by kernel_rfl
theorem c3:segTo Tryz.prog orcT 10000 (flT.take 3) sh0 [0,0] shC [(0,0),(2,0),(8,0)] iti.hCv=some (.normal,[Zi6,Zlf,.fn 64 (EJn 1) Zdf,.ok (.fn 1 Zdf 0),Zlg,Zli,Zq5,Zj9,.ok (.con (.int .i64 0)),Zj9],[.var 0,.con (.int .i64 0),.fn 5 [Zb7] 1,.fn 5 [Zb7] 2,.fn 5 [Zb7] 3]):=by kernel_rfl
theorem red:segTo Tryz.prog orcT 10000 [] shC [] shP [(0,0)] iti.hCv=some (.normal,[],[.var 0]):=by kernel_rfl
theorem k0:runTo Tryz.prog (orcQ tab73) 10000 23 (ETj 6) [.row] [0]=some ([Zi7,.is (.fn 1 [.var 0] 0) (.int .i64 0),.ok (.fn 1 [.var 0] 3)],[.fn 1 [.var 0] 1,.fn 1 [.var 0] 2,.fn 1 [.var 0] 3,.con (.bool true)]):=by kernel_rfl
theorem k2:runTo Tryz.prog (orcQ tab73) 10000 23 (ETj 6) [.row] [2]=some ([Zi7,.is (.fn 1 [.var 0] 0) (.int .i64 2)],Zlh):=by kernel_rfl
theorem k3:runTo Tryz.prog (orcQ tab73) 10000 23 (ETj 6) [.row] [3]=some ([Zi7,.is (.fn 1 [.var 0] 0) (.int .i64 3)],Zlh):=by kernel_rfl
theorem k5:runTo Tryz.prog (orcQ tab73) 10000 23 (ETj 6) [.row] [5]=some ([Zi7,.is (.fn 1 [.var 0] 0) (.int .i64 5)],Zlh):=by kernel_rfl
theorem k1:runTo Tryz.prog (orcQ tab73) 10000 23 (ETj 6) [.row] [1]=some ([Zi7,.is (.fn 1 [.var 0] 0) (.int .i64 1)],Zlh):=by kernel_rfl
theorem k4:runTo Tryz.prog (orcQ tab73) 10000 23 (ETj 6) [.row] [4]=some ([Zi7,.is (.fn 1 [.var 0] 0) (.int .i64 4)],Zlh):=by kernel_rfl

@[simp] theorem holds_fqT (B:Base) (f:FuncId) (E:PtrE) (pans:List Value) (es:List SX):(Fact.fq f E pans es).holds B ↔ ToldQ f E pans (B.F E.k)/\∃ ps qs,evs B.s B.F es=some ps/\B.F E.k ps=some qs:=Iff.rfl
@[simp] theorem kTc (k:Nat):(ETc k).k=k:=rfl
theorem Zwv {α:Type} {rd:List UInt8->Rd α}:∀ {n i:Nat} {xs ys:List α} {l r:List UInt8},goR rd n i xs l=.ok (ys,r)->ys.length=xs.length
 | 0,i,xs,ys,l,r,h=>by simp only [goR,Except.ok.injEq,Prod.mk.injEq] at h;rw [h.1]
 | n+1,i,xs,ys,l,r,h=>by
  unfold goR at h
  split at h
  ·cases h
  ·rw [Zwv h,List.length_set]
theorem goR_all {α:Type} {rd:List UInt8->Rd α} {p:α->Prop} (hr:∀ {l:List UInt8} {x:α} {r:List UInt8},rd l=.ok (x,r)->p x):∀ {n i:Nat} {xs ys:List α} {l r:List UInt8},goR rd n i xs l=.ok (ys,r)->(∀ x ∈ xs,p x)->∀ y ∈ ys,p y
 | 0,i,xs,ys,l,r,h,hx=>by simp only [goR,Except.ok.injEq,Prod.mk.injEq] at h;rw [<- h.1];exact hx
 | n+1,i,xs,ys,l,r,h,hx=>by
  unfold goR at h
  split at h
  ·cases h
  ·rename_i x r' h1
   refine goR_all hr h fun y hy=>?_
   rcases List.mem_or_eq_of_mem_set hy with hy | rfl
   ·exact hx y hy
   ·exact hr h1
theorem txL_size (l:List UInt8):(txL l).size<=255:=by
 have h:=(l.getD 0 0).toNat_lt
 have:(txL l).size=((l.drop 1).take (l.getD 0 0).toNat).length:=rfl
 rw [this,List.length_take]
 omega
theorem tB_size {k:Nat} {l r:List UInt8} {v:ByteArray} (h:tB k l=.ok (v,r)):v.size<=255:=by
 unfold tB at h
 split at h
 ·split at h
  ·simp only [Except.ok.injEq,Prod.mk.injEq] at h;rw [<- h.1];exact txL_size l
  ·cases h
 ·cases h
theorem rdF_size {l r:List UInt8} {f:FileM} (h:rdF l=.ok (f,r)):f.1.size<=1000000/\f.2.2.size<=1000000:=by
 unfold rdF at h
 split at h
 ·cases h
 rename_i a l1 h1
 split at h
 ·cases h
 split at h
 ·cases h
 rename_i c l3 h3
 cases h
 have:=tB_size h1
 have:=tB_size h3
 exact ⟨by show a.size<=_;omega,by show c.size<=_;omega⟩
theorem rd_pre {l r:List UInt8} {s:StM} (h:rdS l=.ok (s,r)):MayPre s:=by
 unfold rdS at h
 split at h
 ·cases h
 split at h
 ·cases h
 rename_i ms l2 h2
 split at h
 ·cases h
 rename_i fs l3 h3
 cases h
 refine ⟨?_,?_,fun f hf=>?_⟩
 ·show fs.length<=_
  rw [Zwv h3];simp
 ·show ms.length<=_
  rw [Zwv h2];simp
 ·refine goR_all (p:=fun f:FileM=>f.1.size<=1000000/\f.2.2.size<=1000000) rdF_size h3 (fun f hf=>?_) f hf
  rw [(List.mem_replicate.1 hf).2]
  decide
theorem tmps18 {a:Act} {v0 v2:Value} (h:a.tmps.size=18) (h0:a.tmps[0]?=some v0) (h2:a.tmps[2]?=some v2) :
  ∃ u1 u3 u4 u5 u6 u7 u8 u9 u10 u11 u12 u13 u14 u15 u16 u17,a=⟨#[v0,u1,v2,u3,u4,u5,u6,u7,u8,u9,u10,u11,u12,u13,u14,u15,u16,u17],a.defers⟩:=by
 obtain ⟨⟨l⟩,d⟩:=a
 match l,h with
 | [u0,u1,u2,u3,u4,u5,u6,u7,u8,u9,u10,u11,u12,u13,u14,u15,u16,u17],_ =>
  simp at h0 h2
  subst h0;subst h2
  exact ⟨_,_,_,_,_,_,_,_,_,_,_,_,_,_,_,_,rfl⟩
theorem canC:∃ x st,canon shC []=some (x,st)/\x.n=18/\x.tm.get 0=some (.ptr 0 0 0 0 0)/\x.tm.get 2=some (.ptr 2 0 0 0 0) ∧
  st.heap.get 0=some { cells:=[AV.dat 3],elem:=23,esz:=0,ro:=false,opn:=false,vers:=[(0,1)],lent:=true } ∧
  st.heap.get 2=some { cells:=[AV.dat 4,AV.dat 5,AV.sym (.var 4)],elem:=30,esz:=0,ro:=false,opn:=false,vers:=[(0,3)] } ∧
  st.heap.get 4=some { cells:=[],elem:=0,esz:=0,ro:=false,opn:=false,vers:=[],dat:=some (.var 2) } ∧
  st.heap.get 5=some { cells:=[],elem:=0,esz:=0,ro:=false,opn:=false,vers:=[],dat:=some (.var 3) }:=by
 have h:∃ p,canon shC []=some p:=Option.isSome_iff_exists.1 (by kernel_rfl)
 obtain ⟨⟨x,st⟩,h⟩:=h
 have g1:(canon shC []).map (fun p=>(p.1.n,p.1.tm.get 0,p.1.tm.get 2))=some (18,some (.ptr 0 0 0 0 0),some (.ptr 2 0 0 0 0)):=by kernel_rfl
 have g2:(canon shC []).map (fun p=>p.2.heap.get 0)=some (some { cells:=[AV.dat 3],elem:=23,esz:=0,ro:=false,opn:=false,vers:=[(0,1)],lent:=true }):=by kernel_rfl
 have g3:(canon shC []).map (fun p=>p.2.heap.get 2)=some (some { cells:=[AV.dat 4,AV.dat 5,AV.sym (.var 4)],elem:=30,esz:=0,ro:=false,opn:=false,vers:=[(0,3)] }):=by kernel_rfl
 have g4:(canon shC []).map (fun p=>p.2.heap.get 4)=some (some { cells:=[],elem:=0,esz:=0,ro:=false,opn:=false,vers:=[],dat:=some (.var 2) }):=by kernel_rfl
 have g5:(canon shC []).map (fun p=>p.2.heap.get 5)=some (some { cells:=[],elem:=0,esz:=0,ro:=false,opn:=false,vers:=[],dat:=some (.var 3) }):=by kernel_rfl
 rw [h] at g1 g2 g3 g4 g5
 simp only [Option.map_some,Option.some.injEq,Prod.mk.injEq] at g1 g2 g3 g4 g5
 exact ⟨x,st,h,g1.1,g1.2.1,g1.2.2,g2,g3,g4,g5⟩
theorem kn_row {C:Base} {ps:List PV} {i:Nat} {p:PV} {w:World} {v:Value} (h:(C.with ps).know (.var i) w v) (hp:ps[i]?=some p):Reads w p v:=by
 obtain ⟨q,h1,h2⟩:=h
 have:(C.with ps).ev (.var i)=ps[i]?:=rfl
 rw [this,hp] at h1
 cases h1
 exact h2
theorem at_datD {B:Base} {m:Map} {x:AAct} {st:St} {a:Act} {w:World} (hat:At B m x st a w) {r:Nat} {o:ARoot} {e:SX} {v:Value} (ho:st.heap.get r=some o) (hd:o.dat=some e) (hv:(AV.dat r).den m=some v):B.know e w.drew v:=by
 obtain ⟨u,fp,h1,h2,h3,h4⟩:=hat.rel.dat r o e trivial ho hd
 simp only [AV.den,h1,Option.bind_some,h2,cond_true,Option.some.injEq] at hv
 subst hv
 exact h4 w.drew (fun _ _=>rfl)
theorem region_no {C:Base} {l:List ByteArray} {s:StM} {n:PV} {a:Act} {w:World} (hpre:MayPre s) (hm:mayS s=false) (hx:Zah C shC [pRow encS l,n,pRow encF s.files,pRow encM s.marks,pI s.epoch] a w)
  {Q:Exit->Act->World->Prop} (hQ:∀ a' w',Zah C shP [pRow encS l] a' w'->Q (.panic [{ v:=pvSe,recovered:=false }]) a' w'):(nth flT 3).wp Tryz.prog Q a w:=by
 have hP:Zah C shP [pRow encS l] a w:=by
  refine Zag (l2:=[]) (Q:=fun _ a w=>Zah C shP [pRow encS l] a w) Zad Zac (Znw (Zai tabTF) (Znw (Zkk tabTX) (Zdm tabTQ))) (l:=[]) red hx (by simp) (fun qs a' w' hq hx'=>⟨fun _=>?_,fun h=>absurd rfl h⟩)
  simp [evs,SX.ev] at hq
  subst hq
  exact hx'
 obtain ⟨x,st,m,hc,_,hat⟩:=hx
 obtain ⟨x',st',hc',gn,gt0,gt2,gh0,gh2,gh4,gh5⟩:=canC
 rw [hc'] at hc
 simp only [Option.some.injEq,Prod.mk.injEq] at hc
 obtain ⟨rfl,rfl⟩:=hc
 obtain ⟨p0,q0,c0⟩:=itd.at_box (n:=1) hat gt0 gh0 (by simp) rfl
 obtain ⟨p2,q2,c2⟩:=itd.at_box (n:=3) hat gt2 gh2 (by simp) rfl
 obtain ⟨lv,_,k0⟩:=c0 0 _ (by omega) rfl
 obtain ⟨v1,d1,k1⟩:=c2 0 _ (by omega) rfl
 obtain ⟨v2,d2,k2⟩:=c2 1 _ (by omega) rfl
 obtain ⟨v3,d3,k3⟩:=c2 2 _ (by omega) rfl
 have r1:=kn_row (at_datD hat gh4 rfl d1) (p:=pRow encF s.files) rfl
 have r2:=kn_row (at_datD hat gh5 rfl d2) (p:=pRow encM s.marks) rfl
 have r3:v3=.int .i64 s.epoch:=by
  simp only [AV.den,hat.rel.sv] at d3
  have:(C.with [pRow encS l,n,pRow encF s.files,pRow encM s.marks,pI s.epoch]).sv (.var 4)=some (.int .i64 s.epoch):=rfl
  rw [this] at d3
  simpa [Value.oneCell'] using d3.symm
 obtain ⟨u1,u3,u4,u5,u6,u7,u8,u9,u10,u11,u12,u13,u14,u15,u16,u17,ha⟩:=tmps18 (hat.tm.size.trans gn) q0 q2
 have hsz:a.tmps.size=18:=hat.tm.size.trans gn
 generalize a.defers=ds at ha
 rw [ha]
 have hd:a.defers=ds:=by rw [ha]
 have hS:Calls Tryz.prog 60 #[.agg #[v1,v2,v3]] w.drew fun e W'=>e=.panicked [{ v:=pvSe,recovered:=false }]/\Ex w W':=by
  refine (Zwk 4 w.drew (fun _=>False) [v1,v2,v3] (pSt s) [pI 1] (Zal fSec ⟨s,hpre,rfl,by rw [hm,if_neg (by simp)]⟩) rfl rfl (fun k h=>h.elim) (fun i p u hp hu=>⟨?_,fun h=>by
   match i with
   | 0=>simp [ESec] at h
   | 1=>simp [ESec] at h
   | 2=>simp [ESec] at h
   | i+3=>simp [ESec] at h⟩)).mono ?_
  ·match i,hp,hu with
   | 0,hp,hu=>simp [pSt] at hp hu;subst hp;subst hu;exact r1
   | 1,hp,hu=>simp [pSt] at hp hu;subst hp;subst hu;exact r2
   | 2,hp,hu=>simp [pSt] at hp hu;subst hp;subst hu;rw [r3];simp only [Reads];exact ⟨trivial,rfl⟩
   | i+3,hp,hu=>simp [pSt] at hp
  ·rintro e W' (⟨qs',h,_⟩ | ⟨j,v,u,h,hv,he,hE⟩)
   ·simp at h
   ·simp only [List.cons.injEq,PV.v.injEq,Value.int.injEq,true_and,and_true] at h
    obtain rfl:j=0:=by omega
    simp at hv
    subst hv
    exact ⟨he,Ex.trans (show Ex w w.drew from ⟨rfl,rfl,rfl,Nat.le_refl _,fun _ _=>rfl⟩) hE⟩
 exact itd.reg3 k0 k1 k2 k3 hS (fun t W' ht hE=>hQ _ _ (itd.shape_ex hP rfl (by rw [hsz];exact ht) hd.symm hE))

def RTc (ps qs:List PV):Prop:=∃ l:List ByteArray,l.length<=30000/\ps=[pRow encS l]/\qs=(if full l=true then (match rdS (catB l) with
 | .error e=>[pI (e.1+1),pRow encS l]
 | .ok (s,_)=>if mayS s=true then (if putI s=l then pI 0 :: (pSt s++[pRow encS l]) else [pI 5,pRow encS l]) else [pI 4,pRow encS l]) else [pI 1,pRow encS l])
theorem cutC:flT=flT.take 3++nth flT 3 :: flT.drop 4:=by kernel_rfl
set_option maxHeartbeats 2000000 in
theorem toldTc (k:Nat):ToldQ 62 (ETc k) pansT (spec RTc):=by
 refine Zpy FT _ (Zar Tryz.prog 62) Tryz.func62 (by kernel_rfl) sh0 (by kernel_rfl) ?_ ?_
 ·intro ps qs h
  obtain ⟨l,_,rfl,rfl⟩:=Zaj h
  exact Zbd rfl
 ·intro C ps qs hF h a w hsh
  obtain ⟨l,hl,rfl,hqs⟩:=Zaj h
  show wpL Tryz.prog flT _ a w
  have ok:OrcOk Tryz.prog orcT:=Znw (Zai tabTF) (Znw (Zkk tabTX) (Zdm tabTQ))
  have g3:FT 3 [pRow encS l]=some (if full l=true then [pI 0] else [pI 1]):=Zal fMf ⟨l,by omega,rfl,rfl⟩
  cases hf:full l with
  | false =>
   rw [hf,if_neg (by simp)] at g3
   rw [hf,if_neg (by simp)] at hqs
   rw [<- List.append_nil flT]
   refine Zag Zad Zac ok c1 hsh ?_ (fun qs a1 w1 hq hx=>⟨nofun,fun _=>.inr ⟨0,_,pvMf,[pRow encS l],shP,_,[SX.var 0],hqs,rfl,by rfl,hx,by kernel_rfl,by simp [evs,SX.ev] at hq;subst hq;rfl⟩⟩)
   simp [-Zae,Zab,Zaa,Base.ev,SX.ev,evs,Value.oneCell',hF,g3,pt3]
  | true =>
   rw [hf,if_pos rfl] at g3
   rw [hf,if_pos rfl] at hqs
   have g1:FT 1 [pRow encS l,pS ⟨⟨[]⟩⟩]=some [pS (ofL (catB l))]:=Zal fJn ⟨l,by omega,hf,rfl,rfl⟩
   have ro:ropPV .ofStr [pS (ofL (catB l))]=some (pBy (catB l)):=Znt _
   have hcl:=Zs8 l hf
   have hsz:(ofL (catB l)).size=32 * l.length:=by rw [Zp6,hcl]
   obtain ⟨z,hz⟩:∃ z:Nat,z=32 * l.length:=⟨_,rfl⟩
   rw [<- hz] at hsz
   have g5:FT 5 [pBy (catB l)]=some (ansE (nB 4 (catB l))):=Zal fRs ⟨catB l,by omega,rfl,rfl⟩
   cases hr:rdS (catB l) with
   | error e =>
    obtain ⟨he,ha⟩:=ans_err hr
    rw [ha] at g5
    rw [hr] at hqs
    obtain ⟨j,r⟩:=e
    generalize ofL (catB l)=t at *
    generalize catB l=b at *
    rw [<- List.append_nil flT]
    rcases he with he | he
    ·simp only at he
     subst he
     refine Zag Zad Zac ok c2 hsh ?_ (fun qs a1 w1 hq hx=>⟨nofun,fun _=>.inr ⟨1,_,pvRd,[pRow encS l],shP,_,[SX.var 0],hqs,rfl,by rfl,hx,by kernel_rfl,by simp [evs,SX.ev] at hq;subst hq;rfl⟩⟩)
     simp [-Zae,Zab,Zaa,Base.ev,SX.ev,evs,Value.oneCell',hF,g3,g1,ro,g5,Za6,hsz,pt1,pt3,pt5]
     all_goals omega
    ·simp only at he
     subst he
     refine Zvb Zad Zac ok c2u hsh ?_ (fun qs a1 w1 hq hx=>⟨nofun,fun _ u=>.inr ⟨2,anyV,u,[pRow encS l],shP,_,[SX.var 0],hqs,rfl,by rfl,hx,by kernel_rfl,by simp [evs,SX.ev] at hq;subst hq;rfl⟩⟩)
     simp [-Zae,Zab,Zaa,Base.ev,SX.ev,evs,Value.oneCell',hF,g3,g1,ro,g5,Za6,hsz,pt1,pt3,pt5]
     all_goals omega
   | ok p =>
    obtain ⟨s,r⟩:=p
    have hpre:=rd_pre hr
    rw [ans_ok hr] at g5
    have g5:FT 5 [pBy (catB l)]=some [pI 0,pRow encF s.files,pRow encM s.marks,pI s.epoch,pBy r]:=g5
    have g4:FT 4 [pRow encF s.files,pRow encM s.marks,pI s.epoch]=some (if mayS s=true then [pI 0,pRow encS (putI s)] else [pI 1]):=Zal fSec ⟨s,hpre,rfl,rfl⟩
    rw [hr] at hqs
    simp only at hqs
    clear hr
    cases hs:mayS s with
    | false =>
     rw [hs,if_neg (by simp)] at hqs
     rw [cutC]
     clear hf g4
     generalize ofL (catB l)=t at *
     generalize catB l=b at *
     refine Zag Zad Zac ok c3 hsh ?_ (fun qs a1 w1 hq hx=>⟨fun _=>?_,fun h=>absurd rfl h⟩)
     ·simp [-Zae,Zab,Zaa,Base.ev,SX.ev,evs,Value.oneCell',hF,g3,g1,ro,g5,Za6,hsz,pt1,pt3,pt5]
      all_goals omega
     ·simp [evs,SX.ev,hF,g1,ro,g5] at hq
      subst hq
      show (nth flT 3).wp _ (Exit.then _ _) a1 w1
      exact region_no hpre hs hx (fun a' w' hx'=>.inr ⟨3,pvSe,pvSe,[pRow encS l],shP,_,[SX.var 0],hqs,rfl,by rfl,hx',by kernel_rfl,rfl⟩)
    | true =>
     rw [hs,if_pos rfl] at hqs g4
     have hms:=Zgw.1 hs
     have g2:FT 2 [pRow encS (putI s),pRow encS l]=some [pB (sameL (putI s) l)]:=Zal fSq ⟨putI s,l,by rw [Ze7 hms];omega,by omega,rfl,rfl⟩
     rw [<- List.append_nil flT]
     by_cases he:putI s=l
     ·rw [Zls he] at g2
      rw [if_pos he] at hqs
      clear he hf hs
      generalize ofL (catB l)=t at *
      generalize catB l=b at *
      generalize putI s=x at *
      refine Zag Zad Zac ok c5 hsh ?_ (fun qs a1 w1 hq hx=>⟨nofun,fun _=>.inl ⟨_,hqs,.inr rfl,shR,_,[SX.var 1,SX.var 2,SX.var 3,SX.var 0],hx,by kernel_rfl,by simp [evs,SX.ev,hF,g1,ro,g5] at hq;subst hq;rfl⟩⟩)
      simp [-Zae,Zab,Zaa,Base.ev,SX.ev,evs,Value.oneCell',hF,g3,g1,ro,g5,g4,g2,Za6,hsz,pt1,pt2,pt3,pt4,pt5]
      all_goals omega
     ·rw [Znr he] at g2
      rw [if_neg he] at hqs
      clear he hf hs
      generalize ofL (catB l)=t at *
      generalize catB l=b at *
      generalize putI s=x at *
      refine Zag Zad Zac ok c4 hsh ?_ (fun qs a1 w1 hq hx=>⟨nofun,fun _=>.inr ⟨4,pvNt,pvNt,[pRow encS l],shP,_,[SX.var 0],hqs,rfl,by rfl,hx,by kernel_rfl,by simp [evs,SX.ev] at hq;subst hq;rfl⟩⟩)
      simp [-Zae,Zab,Zaa,Base.ev,SX.ev,evs,Value.oneCell',hF,g3,g1,ro,g5,g4,g2,Za6,hsz,pt1,pt2,pt3,pt4,pt5]
      all_goals omega

def RTj (ps qs:List PV):Prop:=∃ l:List ByteArray,l.length<=30000/\ps=[pRow encS l]/\qs=ansT (takeI l)
theorem fTj:∀ ps q1 q2,RTj ps q1->RTj ps q2->q1=q2:=by
 rintro ps q1 q2 ⟨l,_,rfl,rfl⟩ ⟨l',_,h,rfl⟩
 simp only [List.cons.injEq,and_true] at h
 rw [fil.pRow_inj encS_inj h]
theorem fTc:∀ ps q1 q2,RTc ps q1->RTc ps q2->q1=q2:=by
 rintro ps q1 q2 ⟨l,_,rfl,rfl⟩ ⟨l',_,h,rfl⟩
 simp only [List.cons.injEq,and_true] at h
 rw [fil.pRow_inj encS_inj h]
noncomputable def FJ:Fns:=fun k=>match k with | 1=>spec RTc | _=>fun _=>none
theorem pj1:ToldQ 62 (ETc 1) [pvMf,pvRd,.tuple { toList:=[] },pvSe,pvNt] (FJ 1):=toldTc 1
theorem toldTj (k:Nat):ToldF 23 (ETj k) (spec RTj):=by
 refine Ze5 Zac Zad FJ [.row] ?_
 intro ps qs h _
 obtain ⟨l,hl,rfl,rfl⟩:=Zaj h
 have ok:OrcOk Tryz.prog (orcQ tab73):=Zdm tab73
 have g1:=Zal (R:=RTc) fTc ⟨l,hl,rfl,rfl⟩
 replace g1:FJ 1 [pRow encS l]=_:=g1
 cases hf:full l with
 | false =>
  rw [hf,if_neg (by simp)] at g1
  rw [take_full fun h=>by rw [full_iff.2 h] at hf;cases hf]
  refine ⟨_,_,_,_,_,_,ok,k1,fun w FP=>?_,?_⟩
  ·simp [-Zae,Zab,Zaa,Base.ev,SX.ev,evs,Value.oneCell',g1,pj1]
  ·simp [evs,SX.ev,ansT]
 | true =>
  rw [hf,if_pos rfl] at g1
  cases hr:rdS (catB l) with
  | error e =>
   rw [hr] at g1
   rw [take_err hr]
   obtain ⟨he,_⟩:=ans_err hr
   obtain ⟨j,r⟩:=e
   rcases he with he | he
   ·simp only at he
    subst he
    refine ⟨_,_,_,_,_,_,ok,k2,fun w FP=>?_,?_⟩
    ·simp [-Zae,Zab,Zaa,Base.ev,SX.ev,evs,Value.oneCell',g1,pj1]
    ·simp [evs,SX.ev,ansT]
   ·simp only at he
    subst he
    refine ⟨_,_,_,_,_,_,ok,k3,fun w FP=>?_,?_⟩
    ·simp [-Zae,Zab,Zaa,Base.ev,SX.ev,evs,Value.oneCell',g1,pj1]
    ·simp [evs,SX.ev,ansT]
  | ok p =>
   obtain ⟨s,r⟩:=p
   rw [hr] at g1
   simp only at g1
   rw [take_ok hr]
   cases hs:mayS s with
   | false =>
    rw [hs,if_neg (by simp)] at g1
    rw [if_neg (fun h=>by rw [Zgw.2 h.1] at hs;cases hs)]
    refine ⟨_,_,_,_,_,_,ok,k4,fun w FP=>?_,?_⟩
    ·simp [-Zae,Zab,Zaa,Base.ev,SX.ev,evs,Value.oneCell',g1,pj1]
    ·simp [evs,SX.ev,ansT]
   | true =>
    rw [hs,if_pos rfl] at g1
    have hms:=Zgw.1 hs
    by_cases he:putI s=l
    ·rw [if_pos he] at g1
     rw [if_pos ⟨hms,he⟩]
     clear he hf hs hr
     refine ⟨_,_,_,_,_,_,ok,k0,fun w FP=>?_,?_⟩
     ·simp [-Zae,Zab,Zaa,Base.ev,SX.ev,evs,Value.oneCell',g1,pj1,pSt]
     ·simp [evs,SX.ev,ansT,g1,pSt]
    ·rw [if_neg he] at g1
     rw [if_neg (fun h=>he h.2)]
     refine ⟨_,_,_,_,_,_,ok,k5,fun w FP=>?_,?_⟩
     ·simp [-Zae,Zab,Zaa,Base.ev,SX.ev,evs,Value.oneCell',g1,pj1]
     ·simp [evs,SX.ev,ansT]

end Go.Proofs.YtefkakjegdjojaaGreat.itc
end
