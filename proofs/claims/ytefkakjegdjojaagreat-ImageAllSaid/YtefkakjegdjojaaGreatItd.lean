/- Texts joined. -/
import Derived.Test.YtefkakjegdjojaaGreatIrm
import Derived.Test.YtefkakjegdjojaaGreatIjn
section
/- Take of package image: told. -/
namespace Go.Proofs.YtefkakjegdjojaaGreat.iti
open Go Go.RowKit eng SX Fact fil ima symD sta ise idf ieq ijn irs bip ird
open dirs (encF cellF FileM)
open fileFronts (Zae)
set_option linter.unusedVariables false
set_option linter.unusedSimpArgs false
set_option maxRecDepth 1000000

def ETi (k:Nat):FnE:={ k:=k,ins:=[none],leaks:=[false],outs:=[some 3,none],kinds:=[.row,.row,.num,.truth] }
def tabTF (f:FuncId):Option FnE:=cond (Nat.beq f 64) (some (EJn 1)) (cond (Nat.beq f 66) (some (ESq 2)) none)
def tabTX (f:FuncId):Option (FnE × List Value):=cond (Nat.beq f 63) (some (EMf 3,[pvMf])) (cond (Nat.beq f 60) (some (ESec 4,[pvSe])) none)
def tabTQ (f:FuncId):Option (PtrE × List Value):=cond (Nat.beq f 65) (some (irs.ESt 5,[pvRd,anyV])) none
def orcT:Orc:=orcOr (orcFn tabTF) (orcOr (orcX tabTX) (orcQ tabTQ))
def isCv:Op->Bool | .convert ..=>true | _=>false
def hCv (_:FuncId) (o:Oper):Option Hint:=cond (isCv o.op) (some .still) none
def bitsN:Nat->Nat->List Nat
 | 0,_=>[]
 | n+1,k=>k % 3 :: bitsN n (k / 3)
@[simp] def Zcs:SX:=rop ROp.ofStr [.fn 1 [.var 0,.con (.string { data:={ toList:=[] } })] 0]
@[simp] def Zf6:List SX:=[.fn 5 [Zcs] 1,.fn 5 [Zcs] 2,.fn 5 [Zcs] 3]
@[simp] def Zhs:List SX:=[.var 0,.con (.string { data:={ toList:=[] } })]
@[simp] def Zrw:Fact:=Fact.fq 65 (irs.ESt 5) [pvRd,.tuple { toList:=[] }] [Zcs]
@[simp] def Zrv:List SX:=[.lit 0 [],.lit 0 [],.con (.int .i64 0),.con (.bool false)]
@[simp] def Zor:Fact:=Fact.fx 63 (EMf 3) [pvMf] [.var 0]
@[simp] def Zru:Fact:=upto (.slen (.fn 1 Zhs 0)) 4294967296
theorem t1:runTo Tryz.prog orcT 10000 23 (ETi 6) [.row] [1] hCv=some ([Zor,.is (.fn 3 [.var 0] 0) (.int .i64 1)],Zrv):=by kernel_rfl
theorem t2:runTo Tryz.prog orcT 10000 23 (ETi 6) [.row] [0,1] hCv=some ([Zor,.is (.fn 3 [.var 0] 0) (.int .i64 0),.fn 64 (EJn 1) Zhs,.ok (.fn 1 Zhs 0),Zru,Zrw,.is (.fn 5 [Zcs] 0) (.int .i64 1)],Zrv):=by kernel_rfl
theorem t4:runTo Tryz.prog orcT 10000 23 (ETi 6) [.row] [0,0,0,0] hCv=some ([Zor,.is (.fn 3 [.var 0] 0) (.int .i64 0),.fn 64 (EJn 1) Zhs,.ok (.fn 1 Zhs 0),Zru,Zrw,.is (.fn 5 [Zcs] 0) (.int .i64 0),.ok (.fn 5 [Zcs] 3),Fact.fx 60 (ESec 4) [pvSe] Zf6,.is (.fn 4 Zf6 0) (.int .i64 0),.fn 66 (ESq 2) [.fn 4 Zf6 1,.var 0],.is (.fn 2 [.fn 4 Zf6 1,.var 0] 0) (.bool false)],Zrv):=by kernel_rfl
theorem t5:runTo Tryz.prog orcT 10000 23 (ETi 6) [.row] [0,0,0,1] hCv=some ([Zor,.is (.fn 3 [.var 0] 0) (.int .i64 0),.fn 64 (EJn 1) Zhs,.ok (.fn 1 Zhs 0),Zru,Zrw,.is (.fn 5 [Zcs] 0) (.int .i64 0),.ok (.fn 5 [Zcs] 3),Fact.fx 60 (ESec 4) [pvSe] Zf6,.is (.fn 4 Zf6 0) (.int .i64 0),.fn 66 (ESq 2) [.fn 4 Zf6 1,.var 0],.is (.fn 2 [.fn 4 Zf6 1,.var 0] 0) (.bool true)],[.fn 5 [Zcs] 1,.fn 5 [Zcs] 2,.fn 5 [Zcs] 3,.con (.bool true)]):=by kernel_rfl

@[simp] theorem holds_fxT (B:Base) (f:FuncId) (E:FnE) (pans:List Value) (es:List SX):(Fact.fx f E pans es).holds B ↔ ToldX f E pans (B.F E.k)/\∃ ps qs,evs B.s B.F es=some ps/\B.F E.k ps=some qs:=Iff.rfl
@[simp] theorem kTi (k:Nat):(ETi k).k=k:=rfl
@[simp] theorem kSeT (k:Nat):(ESec k).k=k:=rfl
@[simp] theorem kStT (k:Nat):(irs.ESt k).k=k:=rfl
noncomputable def FT:Fns:=fun k=>match k with | 1=>spec RJn | 2=>spec RSq | 3=>spec RMf | 4=>spec RSec | 5=>spec RRs | _=>fun _=>none
theorem pt1:ToldF 64 (EJn 1) (FT 1):=toldJn 1
theorem pt2:ToldF 66 (ESq 2) (FT 2):=toldSq 2
theorem pt3:ToldX 63 (EMf 3) [pvMf] (FT 3):=toldMf 3
theorem pt4:ToldX 60 (ESec 4) [pvSe] (FT 4):=Zvz 4
theorem pt5:ToldQ 65 (irs.ESt 5) [pvRd,.tuple { toList:=[] }] (FT 5):=toldSt 5
def ansT:Option StM->List PV
 | some s=>pSt s++[pB true]
 | none=>[.row 0 [],.row 0 [],pI 0,pB false]
def mayR (l:List ByteArray):Prop:=∀ s r,rdS (catB l)=.ok (s,r)->MayS s
def RTi (ps qs:List PV):Prop:=∃ l:List ByteArray,l.length<=30000/\mayR l/\ps=[pRow encS l]/\qs=ansT (takeI l)
theorem full_iff {l:List ByteArray}:full l=true ↔ ∀ a ∈ l,a.size=32:=by simp [full]

end Go.Proofs.YtefkakjegdjojaaGreat.iti
end
section
/- The region of image.Take's closure in which sectors panics, by hand. -/
namespace Go.Proofs.YtefkakjegdjojaaGreat.itd
open Go Go.RowKit eng SX Fact fil ima symD
set_option maxRecDepth 100000
set_option linter.unusedVariables false
set_option linter.unusedSimpArgs false

noncomputable def flT:=flat (Zaq Tryz.prog 62)
def ops3 : Array Oper := #[{ dst := some 11, op := .load 30 (.tmp 2), type := 30, pos := "image.go:33", after := #[], guard := none }, { dst := some 12, op := .call { callee := .value (.func 60), args := #[.tmp 11], argTypes := #[30] }, type := 23, pos := "image.go:33", after := #[{ on := 0, ground := .data }], guard := none }, { dst := some 13, op := .load 23 (.tmp 0), type := 23, pos := "image.go:33", after := #[], guard := none }, { dst := some 14, op := .call { callee := .value (.func 66), args := #[.tmp 12, .tmp 13], argTypes := #[23, 23] }, type := 4, pos := "image.go:33", after := #[{ on := 1, ground := .data }, { on := 2, ground := .data }, { on := 1, ground := .chain }], guard := none }, { dst := some 15, op := .unOp .not 4 (.tmp 14), type := 4, pos := "image.go:33", after := #[{ on := 3, ground := .data }], guard := none }]
theorem at3:nth flT 3=.region 3 ops3 true:=by kernel_rfl
theorem reg3 {Q:Exit->Act->World->Prop} {pv:Value} {p0 p2:Nat} {lv v1 v2 v3:Value} {ds:List Deferred} {u1 u3 u4 u5 u6 u7 u8 u9 u10 u11 u12 u13 u14 u15 u16 u17:Value} {w:World}
  (c0:w.cell? ⟨p0,0,none⟩=some lv) (d0:w.cell? ⟨p2,0,none⟩=some v1) (d1:w.cell? ⟨p2,1,none⟩=some v2) (d2:w.cell? ⟨p2,2,none⟩=some v3)
  (hS:Calls Tryz.prog 60 #[.agg #[v1,v2,v3]] w.drew fun e W'=>e=.panicked [{ v:=pv,recovered:=false }]/\Ex w W')
  (hQ:∀ (t:Array Value) W',t.size=18->Ex w W'->Q (.panic [{ v:=pv,recovered:=false }]) ⟨t,ds⟩ W') :
  (nth flT 3).wp Tryz.prog Q ⟨#[.pointer (some ⟨p0,0,none⟩),u1,.pointer (some ⟨p2,0,none⟩),u3,u4,u5,u6,u7,u8,u9,u10,u11,u12,u13,u14,u15,u16,u17],ds⟩ w:=by
 rw [at3]
 unfold ops3
 have HS:=Lib.hid hS
 have HQ:=Lib.hid hQ
 clear hS hQ
 refine wp_region_any Zac ?_
 change wpAny _ _ _ _ _ _ _ (World.drew _)
 have c0:w.drew.cell? ⟨p0,0,none⟩=some lv:=c0
 have d0:w.drew.cell? ⟨p2,0,none⟩=some v1:=d0
 have d1:w.drew.cell? ⟨p2,1,none⟩=some v2:=d1
 have d2:w.drew.cell? ⟨p2,2,none⟩=some v3:=d2
 refine wpAny_ready (rs:=[0,2]) (by kernel_rfl) (by simp) ?_
 refine AllReady.cons rfl (fun K hK=>?_) (AllReady.cons rfl (fun K hK=>?_) AllReady.nil)
 ·go_simp;refine hK _ _ ?_;clear hK K
  refine wpAny_ready (rs:=[1,2]) (by kernel_rfl) (by simp) ?_
  refine AllReady.cons rfl (fun K hK=>?_) (AllReady.cons rfl (fun K hK=>?_) AllReady.nil)
  ·go_simp;refine HS.out.mono ?_;rintro e W ⟨rfl,hE⟩;exact HQ.out _ _ rfl hE
  ·go_simp;refine hK _ _ ?_;clear hK K
   refine wpAny_ready (rs:=[1]) (by kernel_rfl) (by simp) ?_
   refine AllReady.cons rfl (fun K hK=>?_) AllReady.nil
   go_simp;refine HS.out.mono ?_;rintro e W ⟨rfl,hE⟩;exact HQ.out _ _ rfl hE
 ·go_simp;refine hK _ _ ?_;clear hK K
  refine wpAny_ready (rs:=[0]) (by kernel_rfl) (by simp) ?_
  refine AllReady.cons rfl (fun K hK=>?_) AllReady.nil
  go_simp;refine hK _ _ ?_;clear hK K
  refine wpAny_ready (rs:=[1]) (by kernel_rfl) (by simp) ?_
  refine AllReady.cons rfl (fun K hK=>?_) AllReady.nil
  go_simp;refine HS.out.mono ?_;rintro e W ⟨rfl,hE⟩;exact HQ.out _ _ rfl hE
theorem shape_ex {C:Base} {sh:Shape} {ps:List PV} {a a':Act} {w w':World} (h:Zah C sh ps a w) (hs:sh.slots=[]) (hsz:a'.tmps.size=a.tmps.size) (hd:a'.defers=a.defers) (he:Ex w w'):Zah C sh ps a' w':=by
 obtain ⟨x,st,m,hc,hl,hat⟩:=h
 have hx:x.tm=.nil:=by
  unfold canon at hc
  simp only [Option.bind_eq_some_iff] at hc
  obtain ⟨⟨xs,r⟩,_,⟨css,r'⟩,_,hc⟩:=hc
  rw [hs] at hc
  cases hb:(r'.isEmpty && small (List.map (·.1) ([]:List (Nat × Pt))) && Nat.blt (sh.boxes.length+sh.rows.length) 16777215 && Zp0 sh.boxes sh.rows.length) with
  | false=>simp only [hb,cond_false] at hc;cases hc
  | true =>
   simp only [hb,cond_true,Option.some.injEq,Prod.mk.injEq] at hc
   rw [<- hc.1]
   cases xs <;> rfl
 refine ⟨x,st,m,hc,hl,⟨(step_ex (Tc:=fun _=>False) hat.rel he).rel,hat.fresh,⟨by rw [hsz];exact hat.tm.size,fun t y hy=>?_,by rw [hd];exact hat.tm.defers⟩⟩⟩
 rw [hx] at hy
 simp [T.get] at hy
theorem at_box {B:Base} {m:Map} {x:AAct} {st:St} {a:Act} {w:World} (hat:At B m x st a w) {t r n:Nat} {o:ARoot} (ht:x.tm.get t=some (.ptr r 0 0 0 0)) (ho:st.heap.get r=some o) (hv:(0,n) ∈ o.vers) (hm:o.mp=false) :
  ∃ b,a.tmps[t]?=some (.pointer (some ⟨b,0,none⟩))/\∀ i y,i < n->o.cells[i]?=some y->∃ v,y.den m=some v/\w.cell? ⟨b,i,none⟩=some v:=by
 obtain ⟨v,hv1,hv2⟩:=hat.tm.get _ _ ht
 obtain ⟨bb,hb,hB⟩:=hat.rel.blk r o trivial ho 0 n hv
 simp only [AV.den,hb,Option.map_some,Option.some.injEq] at hv1
 subst hv1
 obtain ⟨c,fz,h1,h2,h3,h4,h5,h6⟩:=hB.c hm
 exact ⟨bb.1,hv2,fun i y hi hy=>by
  obtain ⟨v,hd,hc⟩:=h5 i y hi hy
  exact ⟨v,hd,by simp [World.cell?,h1,hc]⟩⟩
end Go.Proofs.YtefkakjegdjojaaGreat.itd
end
