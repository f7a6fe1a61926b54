/- Texts joined. -/
import Derived.Test.YtnomiffghidmbaaMrl
import Derived.Test.YtnomiffghidmbaaMat
import Derived.Test.YtnomiffghidmbaaMrg5
import Derived.Test.YtnomiffghidmbaaEng31
section
/- Texts joined. -/
section
/- The regions of package msg's TakeAsk and TakeTell in which askBytes and tellBytes panic, by hand. -/
namespace Go.Proofs.Ytnomiffghidmbaa.mtd
open Go Go.RowKit eng SX Fact fil ima symD
set_option maxRecDepth 100000
set_option linter.unusedVariables false
set_option linter.unusedSimpArgs false
noncomputable def flA:=flat (Zam Try.prog 49)
def opsA : Array Oper := #[{ dst := some 7, op := .load 24 (.tmp 2), type := 24, pos := "msg.go:37", after := #[], guard := none }, { dst := some 8, op := .call { callee := .value (.func 38), args := #[.tmp 7], argTypes := #[24] }, type := 28, pos := "msg.go:37", after := #[{ on := 0, ground := .data }], guard := none }, { dst := some 9, op := .load 28 (.tmp 0), type := 28, pos := "msg.go:37", after := #[], guard := none }, { dst := some 10, op := .call { callee := .value (.func 51), args := #[.tmp 8, .tmp 9], argTypes := #[28, 28] }, type := 0, pos := "msg.go:37", after := #[{ on := 1, ground := .data }, { on := 2, ground := .data }, { on := 1, ground := .chain }], guard := none }]
theorem atA:nth flA 2=.region 2 opsA true:=by kernel_rfl
theorem regA {Q:Exit->Act->World->Prop} {p0 p2:Nat} {lv v0 v1 v2 v3 v4 v5 v6 v7:Value} {ds:List Deferred} {u1 u3 u4 u5 u6 u7 u8 u9 u10 u11:Value} {w:World}
  (c0:w.cell? ⟨p0,0,none⟩=some lv) (d0:w.cell? ⟨p2,0,none⟩=some v0) (d1:w.cell? ⟨p2,1,none⟩=some v1) (d2:w.cell? ⟨p2,2,none⟩=some v2) (d3:w.cell? ⟨p2,3,none⟩=some v3) (d4:w.cell? ⟨p2,4,none⟩=some v4) (d5:w.cell? ⟨p2,5,none⟩=some v5) (d6:w.cell? ⟨p2,6,none⟩=some v6) (d7:w.cell? ⟨p2,7,none⟩=some v7)
  (hS:Calls Try.prog 38 #[.agg #[v0,v1,v2,v3,v4,v5,v6,v7]] w.drew fun e W'=>(∃ pv,e=.panicked [{ v:=pv,recovered:=false }])/\Ex w W')
  (hQ:∀ (t:Array Value) W' pv,t.size=12->Ex w W'->Q (.panic [{ v:=pv,recovered:=false }]) ⟨t,ds⟩ W') :
  (nth flA 2).wp Try.prog Q ⟨#[.pointer (some ⟨p0,0,none⟩),u1,.pointer (some ⟨p2,0,none⟩),u3,u4,u5,u6,u7,u8,u9,u10,u11],ds⟩ w:=by
 rw [atA]
 unfold opsA
 have HS:=Lib.hid hS
 have HQ:=Lib.hid hQ
 clear hS hQ
 refine wp_region_any mixed_ok ?_
 change wpAny _ _ _ _ _ _ _ (World.drew _)
 have c0:w.drew.cell? ⟨p0,0,none⟩=some lv:=c0
 have d0:w.drew.cell? ⟨p2,0,none⟩=some v0:=d0
 have d1:w.drew.cell? ⟨p2,1,none⟩=some v1:=d1
 have d2:w.drew.cell? ⟨p2,2,none⟩=some v2:=d2
 have d3:w.drew.cell? ⟨p2,3,none⟩=some v3:=d3
 have d4:w.drew.cell? ⟨p2,4,none⟩=some v4:=d4
 have d5:w.drew.cell? ⟨p2,5,none⟩=some v5:=d5
 have d6:w.drew.cell? ⟨p2,6,none⟩=some v6:=d6
 have d7:w.drew.cell? ⟨p2,7,none⟩=some v7:=d7
 refine wpAny_ready (rs:=[0,2]) (by kernel_rfl) (by simp) ?_
 refine AllReady.cons rfl (fun K hK=>?_) (AllReady.cons rfl (fun K hK=>?_) AllReady.nil)
 ·go_simp;refine hK _ _ ?_;clear hK K
  refine wpAny_ready (rs:=[1,2]) (by kernel_rfl) (by simp) ?_
  refine AllReady.cons rfl (fun K hK=>?_) (AllReady.cons rfl (fun K hK=>?_) AllReady.nil)
  ·go_simp;refine HS.out.mono ?_;rintro e W ⟨⟨pv,rfl⟩,hE⟩;exact HQ.out _ _ pv rfl hE
  ·go_simp;refine hK _ _ ?_;clear hK K
   refine wpAny_ready (rs:=[1]) (by kernel_rfl) (by simp) ?_
   refine AllReady.cons rfl (fun K hK=>?_) AllReady.nil
   go_simp;refine HS.out.mono ?_;rintro e W ⟨⟨pv,rfl⟩,hE⟩;exact HQ.out _ _ pv rfl hE
 ·go_simp;refine hK _ _ ?_;clear hK K
  refine wpAny_ready (rs:=[0]) (by kernel_rfl) (by simp) ?_
  refine AllReady.cons rfl (fun K hK=>?_) AllReady.nil
  go_simp;refine hK _ _ ?_;clear hK K
  refine wpAny_ready (rs:=[1]) (by kernel_rfl) (by simp) ?_
  refine AllReady.cons rfl (fun K hK=>?_) AllReady.nil
  go_simp;refine HS.out.mono ?_;rintro e W ⟨⟨pv,rfl⟩,hE⟩;exact HQ.out _ _ pv rfl hE
noncomputable def flT:=flat (Zam Try.prog 55)
def opsT : Array Oper := #[{ dst := some 7, op := .load 27 (.tmp 2), type := 27, pos := "msg.go:57", after := #[], guard := none }, { dst := some 8, op := .call { callee := .value (.func 47), args := #[.tmp 7], argTypes := #[27] }, type := 28, pos := "msg.go:57", after := #[{ on := 0, ground := .data }], guard := none }, { dst := some 9, op := .load 28 (.tmp 0), type := 28, pos := "msg.go:57", after := #[], guard := none }, { dst := some 10, op := .call { callee := .value (.func 51), args := #[.tmp 8, .tmp 9], argTypes := #[28, 28] }, type := 0, pos := "msg.go:57", after := #[{ on := 1, ground := .data }, { on := 2, ground := .data }, { on := 1, ground := .chain }], guard := none }]
theorem atT:nth flT 2=.region 2 opsT true:=by kernel_rfl
theorem regT {Q:Exit->Act->World->Prop} {p0 p2:Nat} {lv v0 v1 v2 v3 v4 v5 v6 v7 v8:Value} {ds:List Deferred} {u1 u3 u4 u5 u6 u7 u8 u9 u10 u11:Value} {w:World}
  (c0:w.cell? ⟨p0,0,none⟩=some lv) (d0:w.cell? ⟨p2,0,none⟩=some v0) (d1:w.cell? ⟨p2,1,none⟩=some v1) (d2:w.cell? ⟨p2,2,none⟩=some v2) (d3:w.cell? ⟨p2,3,none⟩=some v3) (d4:w.cell? ⟨p2,4,none⟩=some v4) (d5:w.cell? ⟨p2,5,none⟩=some v5) (d6:w.cell? ⟨p2,6,none⟩=some v6) (d7:w.cell? ⟨p2,7,none⟩=some v7) (d8:w.cell? ⟨p2,8,none⟩=some v8)
  (hS:Calls Try.prog 47 #[.agg #[v0,v1,v2,v3,v4,v5,v6,v7,v8]] w.drew fun e W'=>(∃ pv,e=.panicked [{ v:=pv,recovered:=false }])/\Ex w W')
  (hQ:∀ (t:Array Value) W' pv,t.size=12->Ex w W'->Q (.panic [{ v:=pv,recovered:=false }]) ⟨t,ds⟩ W') :
  (nth flT 2).wp Try.prog Q ⟨#[.pointer (some ⟨p0,0,none⟩),u1,.pointer (some ⟨p2,0,none⟩),u3,u4,u5,u6,u7,u8,u9,u10,u11],ds⟩ w:=by
 rw [atT]
 unfold opsT
 have HS:=Lib.hid hS
 have HQ:=Lib.hid hQ
 clear hS hQ
 refine wp_region_any mixed_ok ?_
 change wpAny _ _ _ _ _ _ _ (World.drew _)
 have c0:w.drew.cell? ⟨p0,0,none⟩=some lv:=c0
 have d0:w.drew.cell? ⟨p2,0,none⟩=some v0:=d0
 have d1:w.drew.cell? ⟨p2,1,none⟩=some v1:=d1
 have d2:w.drew.cell? ⟨p2,2,none⟩=some v2:=d2
 have d3:w.drew.cell? ⟨p2,3,none⟩=some v3:=d3
 have d4:w.drew.cell? ⟨p2,4,none⟩=some v4:=d4
 have d5:w.drew.cell? ⟨p2,5,none⟩=some v5:=d5
 have d6:w.drew.cell? ⟨p2,6,none⟩=some v6:=d6
 have d7:w.drew.cell? ⟨p2,7,none⟩=some v7:=d7
 have d8:w.drew.cell? ⟨p2,8,none⟩=some v8:=d8
 refine wpAny_ready (rs:=[0,2]) (by kernel_rfl) (by simp) ?_
 refine AllReady.cons rfl (fun K hK=>?_) (AllReady.cons rfl (fun K hK=>?_) AllReady.nil)
 ·go_simp;refine hK _ _ ?_;clear hK K
  refine wpAny_ready (rs:=[1,2]) (by kernel_rfl) (by simp) ?_
  refine AllReady.cons rfl (fun K hK=>?_) (AllReady.cons rfl (fun K hK=>?_) AllReady.nil)
  ·go_simp;refine HS.out.mono ?_;rintro e W ⟨⟨pv,rfl⟩,hE⟩;exact HQ.out _ _ pv rfl hE
  ·go_simp;refine hK _ _ ?_;clear hK K
   refine wpAny_ready (rs:=[1]) (by kernel_rfl) (by simp) ?_
   refine AllReady.cons rfl (fun K hK=>?_) AllReady.nil
   go_simp;refine HS.out.mono ?_;rintro e W ⟨⟨pv,rfl⟩,hE⟩;exact HQ.out _ _ pv rfl hE
 ·go_simp;refine hK _ _ ?_;clear hK K
  refine wpAny_ready (rs:=[0]) (by kernel_rfl) (by simp) ?_
  refine AllReady.cons rfl (fun K hK=>?_) AllReady.nil
  go_simp;refine hK _ _ ?_;clear hK K
  refine wpAny_ready (rs:=[1]) (by kernel_rfl) (by simp) ?_
  refine AllReady.cons rfl (fun K hK=>?_) AllReady.nil
  go_simp;refine HS.out.mono ?_;rintro e W ⟨⟨pv,rfl⟩,hE⟩;exact HQ.out _ _ pv rfl hE
theorem shape_ex {C:Base} {sh:Shape} {ps:List PV} {a a':Act} {w w':World} (h:Zah C sh ps a w) (hs:sh.slots=[]) (hsz:a'.tmps.size=a.tmps.size) (hd:a'.defers=a.defers) (he:Ex w w'):Zah C sh ps a' w':=by
 obtain ⟨x,st,m,hc,hl,hat⟩:=h
 have hx:x.tm=.nil:=by
  unfold canon at hc
  simp only [Option.bind_eq_some_iff] at hc
  obtain ⟨⟨xs,r⟩,_,⟨css,r'⟩,_,hc⟩:=hc
  rw [hs] at hc
  cases hb:(r'.isEmpty && small (List.map (·.1) ([]:List (Nat × Pt))) && Nat.blt (sh.boxes.length+sh.rows.length) 16777215 && Zjg sh.boxes sh.rows.length) with
  | false=>simp only [hb,cond_false] at hc;cases hc
  | true =>
   simp only [hb,cond_true,Option.some.injEq,Prod.mk.injEq] at hc
   rw [<- hc.1]
   cases xs <;> rfl
 refine ⟨x,st,m,hc,hl,⟨(step_ex (Tc:=fun _=>False) hat.rel he).rel,hat.fresh,⟨by rw [hsz];exact hat.tm.size,fun t y hy=>?_,by rw [hd];exact hat.tm.defers⟩⟩⟩
 rw [hx] at hy
 simp [T.get] at hy
theorem at_box {B:Base} {m:Map} {x:AAct} {st:St} {a:Act} {w:World} (hat:At B m x st a w) {t r n:Nat} {o:ARoot} (ht:x.tm.get t=some (.ptr r 0 0 0 0)) (ho:st.heap.get r=some o) (hv:(0,n) ∈ o.vers) (hm:o.mp=false) :
  ∃ b,a.tmps[t]?=some (.pointer (some ⟨b,0,none⟩))/\∀ i y,i < n->o.cells[i]?=some y->∃ v,y.den m=some v/\w.cell? ⟨b,i,none⟩=some v:=by
 obtain ⟨v,hv1,hv2⟩:=hat.tm.get _ _ ht
 obtain ⟨bb,hb,hB⟩:=hat.rel.blk r o trivial ho 0 n hv
 simp only [AV.den,hb,Option.map_some,Option.some.injEq] at hv1
 subst hv1
 obtain ⟨c,fz,h1,h2,h3,h4,h5,h6⟩:=hB.c hm
 exact ⟨bb.1,hv2,fun i y hi hy=>by
  obtain ⟨v,hd,hc⟩:=h5 i y hi hy
  exact ⟨v,hd,by simp [World.cell?,h1,hc]⟩⟩
end Go.Proofs.Ytnomiffghidmbaa.mtd
end
section
/- Package msg's TakeAsk and TakeTell, told. -/
namespace Go.Proofs.Ytnomiffghidmbaa.mtk
open Go Go.RowKit eng SX Fact fil ima msm
open fileFronts (Zac)
open mws (aP Zej tl_injW)
open mas (AOk)
open myt (tP Zh4 TOk)
open mrk (ERa RRa fRa toldRa ansA)
open mrl (ERl RRl fRl toldRl ansL)
open mab (EAb RAb fAb Zro)
open mat (EAt RAt fAt Zuh)
open bip (pBy_inj)
set_option linter.unusedVariables false
set_option linter.unusedSimpArgs false
set_option maxRecDepth 1000000
def EKa (k:Nat):FnE:={ k:=k,ins:=[none],leaks:=[true],outs:=[some 8,none],kinds:=[.num,.num,.num,.num,.num,.num,.num,.row,.truth] }
def EKt (k:Nat):FnE:={ k:=k,ins:=[none],leaks:=[true],outs:=[some 9,none],kinds:=[.num,.num,.num,.num,.num,.num,.num,.num,.num,.truth] }
def tabX (f:FuncId):Option (FnE × List Value):=cond (Nat.beq f 38) (some (EAb 1,[anyV])) (cond (Nat.beq f 47) (some (EAt 2,[anyV])) none)
def tabQ (f:FuncId):Option (PtrE × List Value):=cond (Nat.beq f 50) (some (ERa 3,[anyV])) (cond (Nat.beq f 56) (some (ERl 4,[anyV])) none)
def orcK:Orc:=orcOr (orcX tabX) (orcQ tabQ)
def EQa (k:Nat):PtrE:={ k:=k,elem:=28,cells:=1,ins:=[],outs:=[some 8],kinds:=[.num,.num,.num,.num,.num,.num,.num,.row,.row] }
def EQt (k:Nat):PtrE:={ k:=k,elem:=28,cells:=1,ins:=[],outs:=[some 9],kinds:=[.num,.num,.num,.num,.num,.num,.num,.num,.num,.row] }
def tab1 (f:FuncId):Option (PtrE × List Value):=cond (Nat.beq f 49) (some (EQa 1,[anyV])) (cond (Nat.beq f 55) (some (EQt 2,[anyV])) none)
def bbx:BoxT:=⟨28,0,false,[.leaf],none,true⟩
def qbx:BoxT:=⟨24,0,false,[.leaf,.leaf,.leaf,.leaf,.leaf,.leaf,.leaf,.leaf],none,false⟩
def tbx:BoxT:=⟨27,0,false,[.leaf,.leaf,.leaf,.leaf,.leaf,.leaf,.leaf,.leaf,.leaf],none,false⟩
noncomputable def flA:=flat (Zam Try.prog 49)
noncomputable def flT:=flat (Zam Try.prog 55)
def shA:Shape:=⟨[(0,.ptr 0 0 0 0)],[bbx],[some true],12,49⟩
def shAP:Shape:=⟨[],[bbx],[some true],12,49⟩
def shAC:Shape:=⟨[(0,.ptr 0 0 0 0),(2,.ptr 1 0 0 0)],[bbx,qbx],[some true,none,none,none,none,none,none,none,some false],12,49⟩
def shAR:Shape:=⟨[(1,.ptr 1 0 0 0)],[bbx,qbx],[some true,none,none,none,none,none,none,none,some true],12,49⟩
def shT:Shape:=⟨[(0,.ptr 0 0 0 0)],[bbx],[some true],12,55⟩
def shTP:Shape:=⟨[],[bbx],[some true],12,55⟩
def shTC:Shape:=⟨[(0,.ptr 0 0 0 0),(2,.ptr 1 0 0 0)],[bbx,tbx],[some true,none,none,none,none,none,none,none,none,none],12,55⟩
def shTR:Shape:=⟨[(1,.ptr 1 0 0 0)],[bbx,tbx],[some true,none,none,none,none,none,none,none,none,none],12,55⟩
@[simp] def zMtk1:List SX:=[.fn 4 [.var 0] 1,.fn 4 [.var 0] 2,.fn 4 [.var 0] 3,.fn 4 [.var 0] 4,.fn 4 [.var 0] 5,.fn 4 [.var 0] 6,.fn 4 [.var 0] 7,.fn 4 [.var 0] 8,.fn 4 [.var 0] 9]
@[simp] def zMtk2:List SX:=[.fn 3 [.var 0] 1,.fn 3 [.var 0] 2,.fn 3 [.var 0] 3,.fn 3 [.var 0] 4,.fn 3 [.var 0] 5,.fn 3 [.var 0] 6,.fn 3 [.var 0] 7,.fn 3 [.var 0] 8]
@[simp] def zMtk3:SX:=rop ROp.toStr [.var 0]
@[simp] def zMtk4:SX:=.con (.int .i64 0)
@[simp] def zMtk5:List SX:=[.var 0,.fn 4 [.var 0] 1,.fn 4 [.var 0] 2,.fn 4 [.var 0] 3,.fn 4 [.var 0] 4,.fn 4 [.var 0] 5,.fn 4 [.var 0] 6,.fn 4 [.var 0] 7,.fn 4 [.var 0] 8,.fn 4 [.var 0] 9]
@[simp] def zMtk6:List SX:=[.var 0,.fn 3 [.var 0] 1,.fn 3 [.var 0] 2,.fn 3 [.var 0] 3,.fn 3 [.var 0] 4,.fn 3 [.var 0] 5,.fn 3 [.var 0] 6,.fn 3 [.var 0] 7,.fn 3 [.var 0] 8]
@[simp] def zMtk7:Fact:=Fact.fq 50 (ERa 3) [.tuple { toList:=[] }] [.var 0]
@[simp] def zMtk8:Fact:=Fact.fq 56 (ERl 4) [.tuple { toList:=[] }] [.var 0]
@[simp] def zMtk9:SX:=.bin .eql (rop ROp.toStr [.fn 1 zMtk2 1]) zMtk3
@[simp] def Zsy:SX:=.bin .eql (rop ROp.toStr [.fn 2 zMtk1 1]) zMtk3
@[simp] def Zqy:Fact:=.ok (.fn 3 [.var 0] 1)
@[simp] def Zqx:Fact:=.ok (.fn 3 [.var 0] 2)
@[simp] def Zqw:Fact:=.ok (.fn 3 [.var 0] 3)
@[simp] def Zqv:Fact:=.ok (.fn 3 [.var 0] 4)
@[simp] def Zqu:Fact:=.ok (.fn 3 [.var 0] 5)
@[simp] def Zqt:Fact:=.ok (.fn 3 [.var 0] 6)
@[simp] def Zqs:Fact:=.ok (.fn 3 [.var 0] 7)
@[simp] def Zqr:Fact:=.ok (.fn 4 [.var 0] 1)
@[simp] def Zqq:Fact:=.ok (.fn 4 [.var 0] 2)
@[simp] def Zqp:Fact:=.ok (.fn 4 [.var 0] 3)
@[simp] def Zqo:Fact:=.ok (.fn 4 [.var 0] 4)
@[simp] def Zqn:Fact:=.ok (.fn 4 [.var 0] 5)
@[simp] def Zqm:Fact:=.ok (.fn 4 [.var 0] 6)
@[simp] def Zql:Fact:=.ok (.fn 4 [.var 0] 7)
@[simp] def Zqk:Fact:=.ok (.fn 4 [.var 0] 8)
@[simp] def Zqj:Fact:=.ok (.fn 4 [.var 0] 9)
@[simp] def Zu2:Fact:=.is (.fn 3 [.var 0] 0) (.int .i64 0)
@[simp] def Zu1:Fact:=.is (.fn 4 [.var 0] 0) (.int .i64 0)
theorem ac1:segU Try.prog orcK 10000 flA shA [1] shAP [(0,0)]=some (.panic (.tuple { toList:=[] }),[zMtk7,.is (.fn 3 [.var 0] 0) (.int .i64 1)],[.var 0]):=by kernel_rfl
theorem ac3:segTo Try.prog orcK 10000 (flA.take 2) shA [0] shAC [(0,0),(6,0)]=some (.normal,[zMtk7,Zu2,Zqy,Zqx,Zqw,Zqv,Zqu,Zqt,Zqs,Zqy,Zqx,Zqw,Zqv,Zqu,Zqt,Zqs],zMtk6):=by kernel_rfl
theorem ac4:segTo Try.prog orcK 10000 flA shA [0,0,0] shAP [(0,0)]=some (.panic (.iface 9 (.string { data:={ toList:=[UInt8.ofNat 109,UInt8.ofNat 115,UInt8.ofNat 103,UInt8.ofNat 58,UInt8.ofNat 32,UInt8.ofNat 110,UInt8.ofNat 111,UInt8.ofNat 116,UInt8.ofNat 32,UInt8.ofNat 97,UInt8.ofNat 115,UInt8.ofNat 32,UInt8.ofNat 105,UInt8.ofNat 116,UInt8.ofNat 32,UInt8.ofNat 119,UInt8.ofNat 111,UInt8.ofNat 117,UInt8.ofNat 108,UInt8.ofNat 100,UInt8.ofNat 32,UInt8.ofNat 98,UInt8.ofNat 101,UInt8.ofNat 32,UInt8.ofNat 112,UInt8.ofNat 117,UInt8.ofNat 116] } })),[zMtk7,Zu2,Zqy,Zqx,Zqw,Zqv,Zqu,Zqt,Zqs,Fact.fx 38 (EAb 1) [.tuple { toList:=[] }] zMtk2,.is (.fn 1 zMtk2 0) (.int .i64 0),.ok (rop ROp.toStr [.fn 1 zMtk2 1]),.ok zMtk3,.ok zMtk9,.is zMtk9 (.bool false)],[.var 0]):=by kernel_rfl
theorem ac5:segTo Try.prog orcK 10000 flA shA [0,0,1] shAR [(0,0),(2,0)]=some (.ret,[zMtk7,Zu2,Zqy,Zqx,Zqw,Zqv,Zqu,Zqt,Zqs,Fact.fx 38 (EAb 1) [.tuple { toList:=[] }] zMtk2,.is (.fn 1 zMtk2 0) (.int .i64 0),.ok (rop ROp.toStr [.fn 1 zMtk2 1]),.ok zMtk3,.ok zMtk9,.is zMtk9 (.bool true),Zqy,Zqx,Zqw,Zqv,Zqu,Zqt,Zqs],zMtk6):=by kernel_rfl
theorem ared:segTo Try.prog orcK 10000 [] shAC [] shAP [(0,0)]=some (.normal,[],[.var 0]):=by kernel_rfl
theorem tc1:segU Try.prog orcK 10000 flT shT [1] shTP [(0,0)]=some (.panic (.tuple { toList:=[] }),[zMtk8,.is (.fn 4 [.var 0] 0) (.int .i64 1)],[.var 0]):=by kernel_rfl
theorem tc3:segTo Try.prog orcK 10000 (flT.take 2) shT [0] shTC [(0,0),(5,0)]=some (.normal,[zMtk8,Zu1,Zqr,Zqq,Zqp,Zqo,Zqn,Zqm,Zql,Zqk,Zqj,Zqr,Zqq,Zqp,Zqo,Zqn,Zqm,Zql,Zqk,Zqj],zMtk5):=by kernel_rfl
theorem tc4:segTo Try.prog orcK 10000 flT shT [0,0,0] shTP [(0,0)]=some (.panic (.iface 9 (.string { data:={ toList:=[UInt8.ofNat 109,UInt8.ofNat 115,UInt8.ofNat 103,UInt8.ofNat 58,UInt8.ofNat 32,UInt8.ofNat 110,UInt8.ofNat 111,UInt8.ofNat 116,UInt8.ofNat 32,UInt8.ofNat 97,UInt8.ofNat 115,UInt8.ofNat 32,UInt8.ofNat 105,UInt8.ofNat 116,UInt8.ofNat 32,UInt8.ofNat 119,UInt8.ofNat 111,UInt8.ofNat 117,UInt8.ofNat 108,UInt8.ofNat 100,UInt8.ofNat 32,UInt8.ofNat 98,UInt8.ofNat 101,UInt8.ofNat 32,UInt8.ofNat 112,UInt8.ofNat 117,UInt8.ofNat 116] } })),[zMtk8,Zu1,Zqr,Zqq,Zqp,Zqo,Zqn,Zqm,Zql,Zqk,Zqj,Fact.fx 47 (EAt 2) [.tuple { toList:=[] }] zMtk1,.is (.fn 2 zMtk1 0) (.int .i64 0),.ok (rop ROp.toStr [.fn 2 zMtk1 1]),.ok zMtk3,.ok Zsy,.is Zsy (.bool false)],[.var 0]):=by kernel_rfl
theorem tc5:segTo Try.prog orcK 10000 flT shT [0,0,1] shTR [(0,0),(2,0)]=some (.ret,[zMtk8,Zu1,Zqr,Zqq,Zqp,Zqo,Zqn,Zqm,Zql,Zqk,Zqj,Fact.fx 47 (EAt 2) [.tuple { toList:=[] }] zMtk1,.is (.fn 2 zMtk1 0) (.int .i64 0),.ok (rop ROp.toStr [.fn 2 zMtk1 1]),.ok zMtk3,.ok Zsy,.is Zsy (.bool true),Zqr,Zqq,Zqp,Zqo,Zqn,Zqm,Zql,Zqk,Zqj],zMtk5):=by kernel_rfl
theorem tred:segTo Try.prog orcK 10000 [] shTC [] shTP [(0,0)]=some (.normal,[],[.var 0]):=by kernel_rfl
theorem ak0:runTo Try.prog (orcQ tab1) 10000 23 (EKa 9) [.row] [0]=some ([Fact.fq 49 (EQa 1) [.tuple { toList:=[] }] [.var 0],.is (.fn 1 [.var 0] 0) (.int .i64 0),.ok (.fn 1 [.var 0] 1),.ok (.fn 1 [.var 0] 2),.ok (.fn 1 [.var 0] 3),.ok (.fn 1 [.var 0] 4),.ok (.fn 1 [.var 0] 5),.ok (.fn 1 [.var 0] 6),.ok (.fn 1 [.var 0] 7)],[.fn 1 [.var 0] 1,.fn 1 [.var 0] 2,.fn 1 [.var 0] 3,.fn 1 [.var 0] 4,.fn 1 [.var 0] 5,.fn 1 [.var 0] 6,.fn 1 [.var 0] 7,.fn 1 [.var 0] 8,.con (.bool true)]):=by kernel_rfl
theorem ak1:runTo Try.prog (orcQ tab1) 10000 23 (EKa 9) [.row] [1]=some ([Fact.fq 49 (EQa 1) [.tuple { toList:=[] }] [.var 0],.is (.fn 1 [.var 0] 0) (.int .i64 1)],[zMtk4,zMtk4,zMtk4,zMtk4,.con (.string { data:={ toList:=[] } }),zMtk4,zMtk4,.lit 0 [],.con (.bool false)]):=by kernel_rfl
theorem tk0:runTo Try.prog (orcQ tab1) 10000 25 (EKt 9) [.row] [0]=some ([Fact.fq 55 (EQt 2) [.tuple { toList:=[] }] [.var 0],.is (.fn 2 [.var 0] 0) (.int .i64 0),.ok (.fn 2 [.var 0] 1),.ok (.fn 2 [.var 0] 2),.ok (.fn 2 [.var 0] 3),.ok (.fn 2 [.var 0] 4),.ok (.fn 2 [.var 0] 5),.ok (.fn 2 [.var 0] 6),.ok (.fn 2 [.var 0] 7),.ok (.fn 2 [.var 0] 8),.ok (.fn 2 [.var 0] 9)],[.fn 2 [.var 0] 1,.fn 2 [.var 0] 2,.fn 2 [.var 0] 3,.fn 2 [.var 0] 4,.fn 2 [.var 0] 5,.fn 2 [.var 0] 6,.fn 2 [.var 0] 7,.fn 2 [.var 0] 8,.fn 2 [.var 0] 9,.con (.bool true)]):=by kernel_rfl
theorem tk1:runTo Try.prog (orcQ tab1) 10000 25 (EKt 9) [.row] [1]=some ([Fact.fq 55 (EQt 2) [.tuple { toList:=[] }] [.var 0],.is (.fn 2 [.var 0] 0) (.int .i64 1)],[zMtk4,zMtk4,zMtk4,zMtk4,zMtk4,zMtk4,zMtk4,zMtk4,.con (.string { data:={ toList:=[] } }),.con (.bool false)]):=by kernel_rfl
@[simp] theorem kKa (k:Nat):(EKa k).k=k:=rfl
@[simp] theorem kKt (k:Nat):(EKt k).k=k:=rfl
@[simp] theorem kQa (k:Nat):(EQa k).k=k:=rfl
@[simp] theorem kQt (k:Nat):(EQt k).k=k:=rfl
@[simp] theorem kAbK (k:Nat):(EAb k).k=k:=rfl
@[simp] theorem kAtK (k:Nat):(EAt k).k=k:=rfl
@[simp] theorem kRaK' (k:Nat):(ERa k).k=k:=rfl
@[simp] theorem kRlK' (k:Nat):(ERl k).k=k:=rfl
theorem eqY (x y:List UInt8):binPV .eql (pS ⟨x.toArray⟩) (pS ⟨y.toArray⟩)=some (pB (decide (x=y))):=by
 by_cases h:x=y
 ·subst h;simp [binPV]
 ·have h':¬ (⟨x.toArray⟩:ByteArray).toList=(⟨y.toArray⟩:ByteArray).toList:=fun e=>by
   have:=tl_injW e
   simp at this
   exact h this
  simp [binPV,h,h']
theorem Zvr:∀ (n:Nat) (s:Rd),(rdW n s).1.length<=n/\∀ w ∈ (rdW n s).1,-9223372036854775808<=w.1/\w.1<=9223372036854775807/\w.2.size<=9223372036854775807
 | 0,s=>by simp [rdW]
 | n+1,s=>by
  rw [rdW]
  split
  ·simp
  ·obtain ⟨h1,h2⟩:=Zvr n (rdT (rdN s 1).2).2
   have i1:=mtt.rdN_i64 s 1 (by omega)
   have i2:=mtt.rdT_size (rdN s 1).2
   refine ⟨by simp;omega,fun w hw=>?_⟩
   rcases List.mem_cons.1 hw with h | h
   ·subst h;exact ⟨i1.1,i1.2,by show (rdT (rdN s 1).2).1.size<=_;omega⟩
   ·exact h2 w h
theorem parse_aok (b:List UInt8):AOk (Zbv b).1:=by
 unfold Zbv
 dsimp only
 refine ⟨mtt.rdN_i64 _ 4 (by omega),mtt.rdN_i64 _ 4 (by omega),Nat.le_trans (mtt.rdT_size _) (by omega),?_,(Zvr _ _).2⟩
 refine Nat.le_trans (Zvr _ _).1 ?_
 have:=mta.rdN_byte (rdN (rdN (rdT (rdN (rdN (rdN (rdN (b,false) 1).2 1).2 4).2 4).2).2 1).2 1).2
 omega
theorem parse_tok (b:List UInt8):TOk (Zb1 b).1:=by
 unfold Zb1
 dsimp only
 exact ⟨mtt.rdN_i64 _ 1 (by omega),mtt.rdN_i64 _ 1 (by omega),mtt.rdN_i64 _ 4 (by omega),mtt.rdN_i64 _ 4 (by omega),mtt.rdN_i64 _ 1 (by omega),mtt.rdN_i64 _ 1 (by omega),mtt.rdN_i64 _ 1 (by omega),mtt.rdN_i64 _ 4 (by omega),Nat.le_trans (mtt.rdT_size _) (by omega)⟩
theorem Zfj {C:Base} {ps:List PV} {m:Map} {x:AAct} {st:St} {a:Act} {w:World} (hat:At (C.with ps) m x st a w) {i:Nat} {u v:Value} (hp:ps[i]?=some (.v u)) (h1:u.oneCell'=true) (h:(AV.sym (.var i)).den m=some v):v=u:=by
 simp only [AV.den,hat.rel.sv] at h
 have:(C.with ps).sv (.var i)=some u:=by
  show ((ps[i]?).bind _)=_
  rw [hp];rfl
 rw [this] at h
 simpa [h1] using h.symm
theorem kn_row {C:Base} {ps:List PV} {i:Nat} {p:PV} {w:World} {v:Value} (h:(C.with ps).know (.var i) w v) (hp:ps[i]?=some p):Reads w p v:=by
 obtain ⟨q,h1,h2⟩:=h
 have:(C.with ps).ev (.var i)=ps[i]?:=rfl
 rw [this,hp] at h1
 cases h1
 exact h2
theorem at_datD {B:Base} {m:Map} {x:AAct} {st:St} {a:Act} {w:World} (hat:At B m x st a w) {r:Nat} {o:ARoot} {e:SX} {v:Value} (ho:st.heap.get r=some o) (hd:o.dat=some e) (hv:(AV.dat r).den m=some v):B.know e w.drew v:=by
 obtain ⟨u,fp,h1,h2,h3,h4⟩:=hat.rel.dat r o e trivial ho hd
 simp only [AV.den,h1,Option.bind_some,h2,cond_true,Option.some.injEq] at hv
 subst hv
 exact h4 w.drew (fun _ _=>rfl)
theorem tmps12 {a:Act} {v0 v2:Value} (h:a.tmps.size=12) (h0:a.tmps[0]?=some v0) (h2:a.tmps[2]?=some v2) :
  ∃ u1 u3 u4 u5 u6 u7 u8 u9 u10 u11,a=⟨#[v0,u1,v2,u3,u4,u5,u6,u7,u8,u9,u10,u11],a.defers⟩:=by
 obtain ⟨⟨l⟩,d⟩:=a
 match l,h with
 | [u0,u1,u2,u3,u4,u5,u6,u7,u8,u9,u10,u11],_ =>
  simp at h0 h2
  subst h0;subst h2
  exact ⟨_,_,_,_,_,_,_,_,_,_,rfl⟩
noncomputable def FK:Fns:=fun k=>match k with | 1=>spec RAb | 2=>spec RAt | 3=>spec RRa | 4=>spec RRl | _=>fun _=>none
theorem v1:ToldX 38 (EAb 1) [.tuple { toList:=[] }] (FK 1):=Zro 1
theorem v2:ToldX 47 (EAt 2) [.tuple { toList:=[] }] (FK 2):=Zuh 2
theorem v3:ToldQ 50 (ERa 3) [.tuple { toList:=[] }] (FK 3):=toldRa 3
theorem v4:ToldQ 56 (ERl 4) [.tuple { toList:=[] }] (FK 4):=toldRl 4
theorem Zgo:OrcOk Try.prog orcK:=Zg7 (Zdo tabX) (Za1 tabQ)
theorem canA:∃ x st,canon shAC []=some (x,st)/\x.n=12/\x.tm.get 0=some (.ptr 0 0 0 0 0)/\x.tm.get 2=some (.ptr 1 0 0 0 0) ∧
  st.heap.get 0=some { cells:=[AV.dat 2],elem:=28,esz:=0,ro:=false,opn:=false,vers:=[(0,1)],lent:=true } ∧
  st.heap.get 1=some { cells:=[AV.sym (.var 1),AV.sym (.var 2),AV.sym (.var 3),AV.sym (.var 4),AV.sym (.var 5),AV.sym (.var 6),AV.sym (.var 7),AV.dat 3],elem:=24,esz:=0,ro:=false,opn:=false,vers:=[(0,8)] } ∧
  st.heap.get 3=some { cells:=[],elem:=0,esz:=0,ro:=false,opn:=false,vers:=[],dat:=some (.var 8) }:=by
 have h:∃ p,canon shAC []=some p:=Option.isSome_iff_exists.1 (by kernel_rfl)
 obtain ⟨⟨x,st⟩,h⟩:=h
 have g1:(canon shAC []).map (fun p=>(p.1.n,p.1.tm.get 0,p.1.tm.get 2))=some (12,some (.ptr 0 0 0 0 0),some (.ptr 1 0 0 0 0)):=by kernel_rfl
 have g2:(canon shAC []).map (fun p=>p.2.heap.get 0)=some (some { cells:=[AV.dat 2],elem:=28,esz:=0,ro:=false,opn:=false,vers:=[(0,1)],lent:=true }):=by kernel_rfl
 have g3:(canon shAC []).map (fun p=>p.2.heap.get 1)=some (some { cells:=[AV.sym (.var 1),AV.sym (.var 2),AV.sym (.var 3),AV.sym (.var 4),AV.sym (.var 5),AV.sym (.var 6),AV.sym (.var 7),AV.dat 3],elem:=24,esz:=0,ro:=false,opn:=false,vers:=[(0,8)] }):=by kernel_rfl
 have g4:(canon shAC []).map (fun p=>p.2.heap.get 3)=some (some { cells:=[],elem:=0,esz:=0,ro:=false,opn:=false,vers:=[],dat:=some (.var 8) }):=by kernel_rfl
 rw [h] at g1 g2 g3 g4
 simp only [Option.map_some,Option.some.injEq,Prod.mk.injEq] at g1 g2 g3 g4
 exact ⟨x,st,h,g1.1,g1.2.1,g1.2.2,g2,g3,g4⟩
set_option maxHeartbeats 2000000 in
theorem noA {C:Base} {b:List UInt8} {a:AskM} (ok:AOk a) (hm:mayA a=false) {c:Act} {w:World} (hx:Zah C shAC (pBy b :: aP a) c w)
  {Q:Exit->Act->World->Prop} (hQ:∀ a' w' pv,Zah C shAP [pBy b] a' w'->Q (.panic [{ v:=pv,recovered:=false }]) a' w'):(nth flA 2).wp Try.prog Q c w:=by
 obtain ⟨x1,x2,x3,x4,x5,x6,x7,x8⟩:=a
 simp only [aP] at hx
 have hP:Zah C shAP [pBy b] c w:=by
  refine Zad (l2:=[]) (Q:=fun _ a w=>Zah C shAP [pBy b] a w) names_ok mixed_ok Zgo (l:=[]) ared hx (by simp) (fun qs a' w' hq hx'=>⟨fun _=>?_,fun h=>absurd rfl h⟩)
  simp [evs,SX.ev] at hq
  subst hq
  exact hx'
 obtain ⟨x,st,m,hc,_,hat⟩:=hx
 obtain ⟨x',st',hc',gn,gt0,gt2,gh0,gh1,gh3⟩:=canA
 rw [hc'] at hc
 simp only [Option.some.injEq,Prod.mk.injEq] at hc
 obtain ⟨rfl,rfl⟩:=hc
 obtain ⟨p0,q0,c0⟩:=mtd.at_box (n:=1) hat gt0 gh0 (by simp) rfl
 obtain ⟨p2,q2,c2⟩:=mtd.at_box (n:=8) hat gt2 gh1 (by simp) rfl
 obtain ⟨lv,_,k0⟩:=c0 0 _ (by omega) rfl
 obtain ⟨y0,e0,k1⟩:=c2 0 _ (by omega) rfl
 obtain ⟨y1,e1,k2⟩:=c2 1 _ (by omega) rfl
 obtain ⟨y2,e2,k3⟩:=c2 2 _ (by omega) rfl
 obtain ⟨y3,e3,k4⟩:=c2 3 _ (by omega) rfl
 obtain ⟨y4,e4,k5⟩:=c2 4 _ (by omega) rfl
 obtain ⟨y5,e5,k6⟩:=c2 5 _ (by omega) rfl
 obtain ⟨y6,e6,k7⟩:=c2 6 _ (by omega) rfl
 obtain ⟨y7,e7,k8⟩:=c2 7 _ (by omega) rfl
 have r0:=Zfj hat (i:=1) (u:=.int .i64 x1) rfl rfl e0
 have r1:=Zfj hat (i:=2) (u:=.int .i64 x2) rfl rfl e1
 have r2:=Zfj hat (i:=3) (u:=.int .i64 x3) rfl rfl e2
 have r3:=Zfj hat (i:=4) (u:=.int .i64 x4) rfl rfl e3
 have r4:=Zfj hat (i:=5) (u:=.string x5) rfl rfl e4
 have r5:=Zfj hat (i:=6) (u:=.int .i64 x6) rfl rfl e5
 have r6:=Zfj hat (i:=7) (u:=.int .i64 x7) rfl rfl e6
 have r7:=kn_row (at_datD hat gh3 rfl e7) (p:=pRow encW x8) rfl
 obtain ⟨u1,u3,u4,u5,u6,u7,u8,u9,u10,u11,ha⟩:=tmps12 (hat.tm.size.trans gn) q0 q2
 have hsz:c.tmps.size=12:=hat.tm.size.trans gn
 generalize c.defers=ds at ha
 rw [ha]
 have hd:c.defers=ds:=by rw [ha]
 have hS:Calls Try.prog 38 #[.agg #[y0,y1,y2,y3,y4,y5,y6,y7]] w.drew fun e W'=>(∃ pv,e=.panicked [{ v:=pv,recovered:=false }])/\Ex w W':=by
  refine (Zro 4 w.drew (fun _=>False) [y0,y1,y2,y3,y4,y5,y6,y7] (aP ⟨x1,x2,x3,x4,x5,x6,x7,x8⟩) [pI 1] (Zaf fAb ⟨_,ok,rfl,by rw [hm,if_neg (by simp)]⟩) rfl rfl (fun k h=>h.elim) (fun i p u hp hu=>⟨?_,fun h=>by
   match i with
   | 0=>simp [EAb] at h
   | 1=>simp [EAb] at h
   | 2=>simp [EAb] at h
   | 3=>simp [EAb] at h
   | 4=>simp [EAb] at h
   | 5=>simp [EAb] at h
   | 6=>simp [EAb] at h
   | 7=>simp [EAb] at h
   | i+8=>simp [EAb] at h⟩)).mono ?_
  ·match i,hp,hu with
   | 0,hp,hu=>simp [aP] at hp hu;subst hp;subst hu;rw [r0];simp only [Reads];exact ⟨trivial,rfl⟩
   | 1,hp,hu=>simp [aP] at hp hu;subst hp;subst hu;rw [r1];simp only [Reads];exact ⟨trivial,rfl⟩
   | 2,hp,hu=>simp [aP] at hp hu;subst hp;subst hu;rw [r2];simp only [Reads];exact ⟨trivial,rfl⟩
   | 3,hp,hu=>simp [aP] at hp hu;subst hp;subst hu;rw [r3];simp only [Reads];exact ⟨trivial,rfl⟩
   | 4,hp,hu=>simp [aP] at hp hu;subst hp;subst hu;rw [r4];simp only [Reads];exact ⟨trivial,rfl⟩
   | 5,hp,hu=>simp [aP] at hp hu;subst hp;subst hu;rw [r5];simp only [Reads];exact ⟨trivial,rfl⟩
   | 6,hp,hu=>simp [aP] at hp hu;subst hp;subst hu;rw [r6];simp only [Reads];exact ⟨trivial,rfl⟩
   | 7,hp,hu=>simp [aP] at hp hu;subst hp;subst hu;exact r7
   | i+8,hp,hu=>simp [aP] at hp
  ·rintro e W' (⟨qs',h,_⟩ | ⟨j,v,u,h,hv,he,hE⟩)
   ·simp at h
   ·exact ⟨⟨_,he⟩,Ex.trans (show Ex w w.drew from ⟨rfl,rfl,rfl,Nat.le_refl _,fun _ _=>rfl⟩) hE⟩
 exact mtd.regA k0 k1 k2 k3 k4 k5 k6 k7 k8 hS (fun t W' pv ht hE=>hQ _ _ pv (mtd.shape_ex hP rfl (by rw [hsz];exact ht) hd.symm hE))
def tfA (b:List UInt8):Option AskM->List PV
 | some a=>pI 0 :: (aP a++[pBy b])
 | none=>[pI 1,pBy b]
def tqA (b:List UInt8):List PV:=tfA b (takeA b)
def RQa (ps qs:List PV):Prop:=∃ b:List UInt8,b.length<=1000000/\ps=[pBy b]/\qs=tqA b
theorem fQa:∀ ps q1 q2,RQa ps q1->RQa ps q2->q1=q2:=by
 rintro ps q1 q2 ⟨a,_,rfl,rfl⟩ ⟨b,_,h,rfl⟩
 simp only [List.cons.injEq,and_true] at h
 rw [pBy_inj h]
theorem Zuc {b:List UInt8} (h:takeA b=none):tqA b=[pI 1,pBy b]:=by show tfA b (takeA b)=_;rw [h];rfl
theorem tqA_yes {b:List UInt8} {a:AskM} (h:takeA b=some a):tqA b=pI 0 :: (aP a++[pBy b]):=by show tfA b (takeA b)=_;rw [h];rfl
theorem cutA:flA=flA.take 2++nth flA 2 :: flA.drop 3:=by kernel_rfl
set_option maxHeartbeats 2000000 in
theorem toldQa (k:Nat):ToldQ 49 (EQa k) [anyV] (spec RQa):=by
 refine Zfm FK _ (Zam Try.prog 49) Try.func49 (by kernel_rfl) shA (by kernel_rfl) ?_ ?_
 ·intro ps qs h
  obtain ⟨b,_,rfl,rfl⟩:=Zag h
  exact Za7 rfl
 ·intro C ps qs hF h a w hsh
  obtain ⟨b,hb,rfl,hqs⟩:=Zag h
  clear h
  show wpL Try.prog flA _ a w
  have g3:FK 3 [pBy b]=some (ansA (Zbv b)):=Zaf fRa ⟨b,hb,rfl,rfl⟩
  have hok:=parse_aok b
  have ht:takeA b=if (Zbv b).2.2=true \/ mayA (Zbv b).1=false \/ putA (Zbv b).1 ≠ b then none else some (Zbv b).1:=by rw [takeA]
  generalize Zbv b=p at g3 hok ht
  obtain ⟨A,r,d⟩:=p
  simp only at ht hok
  have g1:FK 1 (aP A)=some (if mayA A=true then [pI 0,pBy (putA A)] else [pI 1]):=Zaf fAb ⟨A,hok,rfl,rfl⟩
  cases d with
  | true =>
   rw [if_pos (.inl rfl)] at ht
   rw [Zuc ht] at hqs
   rw [ansA,if_pos rfl] at g3
   rw [<- List.append_nil flA]
   refine Zbh names_ok mixed_ok Zgo ac1 hsh ?_ (fun qs a1 wd hq hx=>⟨nofun,fun _ u=>.inr ⟨0,anyV,u,[pBy b],shAP,_,[SX.var 0],hqs,rfl,rfl,hx,by kernel_rfl,by simp [evs,SX.ev] at hq;subst hq;rfl⟩⟩)
   simp [-Zac,Zab,Zaa,Base.ev,SX.ev,evs,Value.oneCell',hF,g3,mtk.v3]
  | false =>
  rw [ansA,if_neg (by simp)] at g3
  cases hm:mayA A with
  | false =>
   rw [hm,if_pos (.inr (.inl rfl))] at ht
   rw [Zuc ht] at hqs
   rw [cutA]
   have g3':=g3
   obtain ⟨x1,x2,x3,x4,x5,x6,x7,x8⟩:=A
   simp only [aP,List.cons_append,List.nil_append] at g3
   refine Zad names_ok mixed_ok Zgo ac3 hsh ?_ (fun qs a1 w1 hq hx=>⟨fun _=>?_,fun h=>absurd rfl h⟩)
   ·simp [-Zac,Zab,Zaa,Base.ev,SX.ev,evs,Value.oneCell',hF,g3,mtk.v3]
   ·simp [evs,SX.ev,hF,g3] at hq
    subst hq
    show (nth flA 2).wp _ (Exit.then _ _) a1 w1
    exact noA hok hm hx (fun a' w' pv hx'=>.inr ⟨0,anyV,pv,[pBy b],shAP,_,[SX.var 0],hqs,rfl,rfl,hx',by kernel_rfl,rfl⟩)
  | true =>
   rw [hm,if_pos rfl] at g1
   have rt1:=Zd6 (putA A)
   have rt2:=Zd6 b
   have hne:=eqY (putA A) b
   rw [<- List.append_nil flA]
   by_cases k:putA A=b
   ·rw [if_neg (by simp [hm,k])] at ht
    rw [tqA_yes ht] at hqs
    rw [decide_eq_true k] at hne
    clear k hm hok ht
    generalize putA A=y at *
    obtain ⟨x1,x2,x3,x4,x5,x6,x7,x8⟩:=A
    simp only [aP,List.cons_append,List.nil_append] at g1 g3 hqs
    refine Zad names_ok mixed_ok Zgo ac5 hsh ?_ (fun qs a1 w1 hq hx=>⟨nofun,fun _=>.inl ⟨_,hqs,.inr rfl,shAR,_,[SX.var 1,SX.var 2,SX.var 3,SX.var 4,SX.var 5,SX.var 6,SX.var 7,SX.var 8,SX.var 0],hx,by kernel_rfl,by simp [evs,SX.ev,hF,g3] at hq;subst hq;rfl⟩⟩)
    simp [-Zac,Zab,Zaa,Base.ev,SX.ev,evs,Value.oneCell',hF,g3,g1,rt1,rt2,hne,mtk.v1,mtk.v3]
   ·rw [if_pos (.inr (.inr k))] at ht
    rw [Zuc ht] at hqs
    rw [decide_eq_false k] at hne
    clear k hm hok ht
    generalize putA A=y at *
    obtain ⟨x1,x2,x3,x4,x5,x6,x7,x8⟩:=A
    simp only [aP,List.cons_append,List.nil_append] at g1 g3
    refine Zad names_ok mixed_ok Zgo ac4 hsh ?_ (fun qs a1 w1 hq hx=>⟨nofun,fun _=>.inr ⟨0,anyV,_,[pBy b],shAP,_,[SX.var 0],hqs,rfl,rfl,hx,by kernel_rfl,by simp [evs,SX.ev] at hq;subst hq;rfl⟩⟩)
    simp [-Zac,Zab,Zaa,Base.ev,SX.ev,evs,Value.oneCell',hF,g3,g1,rt1,rt2,hne,mtk.v1,mtk.v3]
theorem canT:∃ x st,canon shTC []=some (x,st)/\x.n=12/\x.tm.get 0=some (.ptr 0 0 0 0 0)/\x.tm.get 2=some (.ptr 1 0 0 0 0) ∧
  st.heap.get 0=some { cells:=[AV.dat 2],elem:=28,esz:=0,ro:=false,opn:=false,vers:=[(0,1)],lent:=true } ∧
  st.heap.get 1=some { cells:=[AV.sym (.var 1),AV.sym (.var 2),AV.sym (.var 3),AV.sym (.var 4),AV.sym (.var 5),AV.sym (.var 6),AV.sym (.var 7),AV.sym (.var 8),AV.sym (.var 9)],elem:=27,esz:=0,ro:=false,opn:=false,vers:=[(0,9)] }:=by
 have h:∃ p,canon shTC []=some p:=Option.isSome_iff_exists.1 (by kernel_rfl)
 obtain ⟨⟨x,st⟩,h⟩:=h
 have g1:(canon shTC []).map (fun p=>(p.1.n,p.1.tm.get 0,p.1.tm.get 2))=some (12,some (.ptr 0 0 0 0 0),some (.ptr 1 0 0 0 0)):=by kernel_rfl
 have g2:(canon shTC []).map (fun p=>p.2.heap.get 0)=some (some { cells:=[AV.dat 2],elem:=28,esz:=0,ro:=false,opn:=false,vers:=[(0,1)],lent:=true }):=by kernel_rfl
 have g3:(canon shTC []).map (fun p=>p.2.heap.get 1)=some (some { cells:=[AV.sym (.var 1),AV.sym (.var 2),AV.sym (.var 3),AV.sym (.var 4),AV.sym (.var 5),AV.sym (.var 6),AV.sym (.var 7),AV.sym (.var 8),AV.sym (.var 9)],elem:=27,esz:=0,ro:=false,opn:=false,vers:=[(0,9)] }):=by kernel_rfl
 rw [h] at g1 g2 g3
 simp only [Option.map_some,Option.some.injEq,Prod.mk.injEq] at g1 g2 g3
 exact ⟨x,st,h,g1.1,g1.2.1,g1.2.2,g2,g3⟩
set_option maxHeartbeats 2000000 in
theorem noT {C:Base} {b:List UInt8} {t:TellM} (ok:TOk t) (hm:mayT t=false) {c:Act} {w:World} (hx:Zah C shTC (pBy b :: tP t) c w)
  {Q:Exit->Act->World->Prop} (hQ:∀ a' w' pv,Zah C shTP [pBy b] a' w'->Q (.panic [{ v:=pv,recovered:=false }]) a' w'):(nth flT 2).wp Try.prog Q c w:=by
 obtain ⟨x1,x2,x3,x4,x5,x6,x7,x8,x9⟩:=t
 simp only [tP] at hx
 have hP:Zah C shTP [pBy b] c w:=by
  refine Zad (l2:=[]) (Q:=fun _ a w=>Zah C shTP [pBy b] a w) names_ok mixed_ok Zgo (l:=[]) tred hx (by simp) (fun qs a' w' hq hx'=>⟨fun _=>?_,fun h=>absurd rfl h⟩)
  simp [evs,SX.ev] at hq
  subst hq
  exact hx'
 obtain ⟨x,st,m,hc,_,hat⟩:=hx
 obtain ⟨x',st',hc',gn,gt0,gt2,gh0,gh1⟩:=canT
 rw [hc'] at hc
 simp only [Option.some.injEq,Prod.mk.injEq] at hc
 obtain ⟨rfl,rfl⟩:=hc
 obtain ⟨p0,q0,c0⟩:=mtd.at_box (n:=1) hat gt0 gh0 (by simp) rfl
 obtain ⟨p2,q2,c2⟩:=mtd.at_box (n:=9) hat gt2 gh1 (by simp) rfl
 obtain ⟨lv,_,k0⟩:=c0 0 _ (by omega) rfl
 obtain ⟨y0,e0,k1⟩:=c2 0 _ (by omega) rfl
 obtain ⟨y1,e1,k2⟩:=c2 1 _ (by omega) rfl
 obtain ⟨y2,e2,k3⟩:=c2 2 _ (by omega) rfl
 obtain ⟨y3,e3,k4⟩:=c2 3 _ (by omega) rfl
 obtain ⟨y4,e4,k5⟩:=c2 4 _ (by omega) rfl
 obtain ⟨y5,e5,k6⟩:=c2 5 _ (by omega) rfl
 obtain ⟨y6,e6,k7⟩:=c2 6 _ (by omega) rfl
 obtain ⟨y7,e7,k8⟩:=c2 7 _ (by omega) rfl
 obtain ⟨y8,e8,k9⟩:=c2 8 _ (by omega) rfl
 have r0:=Zfj hat (i:=1) (u:=.int .i64 x1) rfl rfl e0
 have r1:=Zfj hat (i:=2) (u:=.int .i64 x2) rfl rfl e1
 have r2:=Zfj hat (i:=3) (u:=.int .i64 x3) rfl rfl e2
 have r3:=Zfj hat (i:=4) (u:=.int .i64 x4) rfl rfl e3
 have r4:=Zfj hat (i:=5) (u:=.int .i64 x5) rfl rfl e4
 have r5:=Zfj hat (i:=6) (u:=.int .i64 x6) rfl rfl e5
 have r6:=Zfj hat (i:=7) (u:=.int .i64 x7) rfl rfl e6
 have r7:=Zfj hat (i:=8) (u:=.int .i64 x8) rfl rfl e7
 have r8:=Zfj hat (i:=9) (u:=.string x9) rfl rfl e8
 obtain ⟨u1,u3,u4,u5,u6,u7,u8,u9,u10,u11,ha⟩:=tmps12 (hat.tm.size.trans gn) q0 q2
 have hsz:c.tmps.size=12:=hat.tm.size.trans gn
 generalize c.defers=ds at ha
 rw [ha]
 have hd:c.defers=ds:=by rw [ha]
 have hS:Calls Try.prog 47 #[.agg #[y0,y1,y2,y3,y4,y5,y6,y7,y8]] w.drew fun e W'=>(∃ pv,e=.panicked [{ v:=pv,recovered:=false }])/\Ex w W':=by
  refine (Zuh 4 w.drew (fun _=>False) [y0,y1,y2,y3,y4,y5,y6,y7,y8] (tP ⟨x1,x2,x3,x4,x5,x6,x7,x8,x9⟩) [pI 1] (Zaf fAt ⟨_,ok,rfl,by rw [hm,if_neg (by simp)]⟩) rfl rfl (fun k h=>h.elim) (fun i p u hp hu=>⟨?_,fun h=>by
   match i with
   | 0=>simp [EAt] at h
   | 1=>simp [EAt] at h
   | 2=>simp [EAt] at h
   | 3=>simp [EAt] at h
   | 4=>simp [EAt] at h
   | 5=>simp [EAt] at h
   | 6=>simp [EAt] at h
   | 7=>simp [EAt] at h
   | 8=>simp [EAt] at h
   | i+9=>simp [EAt] at h⟩)).mono ?_
  ·match i,hp,hu with
   | 0,hp,hu=>simp [tP] at hp hu;subst hp;subst hu;rw [r0];simp only [Reads];exact ⟨trivial,rfl⟩
   | 1,hp,hu=>simp [tP] at hp hu;subst hp;subst hu;rw [r1];simp only [Reads];exact ⟨trivial,rfl⟩
   | 2,hp,hu=>simp [tP] at hp hu;subst hp;subst hu;rw [r2];simp only [Reads];exact ⟨trivial,rfl⟩
   | 3,hp,hu=>simp [tP] at hp hu;subst hp;subst hu;rw [r3];simp only [Reads];exact ⟨trivial,rfl⟩
   | 4,hp,hu=>simp [tP] at hp hu;subst hp;subst hu;rw [r4];simp only [Reads];exact ⟨trivial,rfl⟩
   | 5,hp,hu=>simp [tP] at hp hu;subst hp;subst hu;rw [r5];simp only [Reads];exact ⟨trivial,rfl⟩
   | 6,hp,hu=>simp [tP] at hp hu;subst hp;subst hu;rw [r6];simp only [Reads];exact ⟨trivial,rfl⟩
   | 7,hp,hu=>simp [tP] at hp hu;subst hp;subst hu;rw [r7];simp only [Reads];exact ⟨trivial,rfl⟩
   | 8,hp,hu=>simp [tP] at hp hu;subst hp;subst hu;rw [r8];simp only [Reads];exact ⟨trivial,rfl⟩
   | i+9,hp,hu=>simp [tP] at hp
  ·rintro e W' (⟨qs',h,_⟩ | ⟨j,v,u,h,hv,he,hE⟩)
   ·simp at h
   ·exact ⟨⟨_,he⟩,Ex.trans (show Ex w w.drew from ⟨rfl,rfl,rfl,Nat.le_refl _,fun _ _=>rfl⟩) hE⟩
 exact mtd.regT k0 k1 k2 k3 k4 k5 k6 k7 k8 k9 hS (fun t W' pv ht hE=>hQ _ _ pv (mtd.shape_ex hP rfl (by rw [hsz];exact ht) hd.symm hE))
def tfT (b:List UInt8):Option TellM->List PV
 | some a=>pI 0 :: (tP a++[pBy b])
 | none=>[pI 1,pBy b]
def tqT (b:List UInt8):List PV:=tfT b (takeT b)
def RQt (ps qs:List PV):Prop:=∃ b:List UInt8,b.length<=1000000/\ps=[pBy b]/\qs=tqT b
theorem fQt:∀ ps q1 q2,RQt ps q1->RQt ps q2->q1=q2:=by
 rintro ps q1 q2 ⟨a,_,rfl,rfl⟩ ⟨b,_,h,rfl⟩
 simp only [List.cons.injEq,and_true] at h
 rw [pBy_inj h]
theorem Zub {b:List UInt8} (h:takeT b=none):tqT b=[pI 1,pBy b]:=by show tfT b (takeT b)=_;rw [h];rfl
theorem tqT_yes {b:List UInt8} {a:TellM} (h:takeT b=some a):tqT b=pI 0 :: (tP a++[pBy b]):=by show tfT b (takeT b)=_;rw [h];rfl
theorem cutT:flT=flT.take 2++nth flT 2 :: flT.drop 3:=by kernel_rfl
set_option maxHeartbeats 2000000 in
theorem toldQt (k:Nat):ToldQ 55 (EQt k) [anyV] (spec RQt):=by
 refine Zfm FK _ (Zam Try.prog 55) Try.func55 (by kernel_rfl) shT (by kernel_rfl) ?_ ?_
 ·intro ps qs h
  obtain ⟨b,_,rfl,rfl⟩:=Zag h
  exact Za7 rfl
 ·intro C ps qs hF h a w hsh
  obtain ⟨b,hb,rfl,hqs⟩:=Zag h
  clear h
  show wpL Try.prog flT _ a w
  have g3:FK 4 [pBy b]=some (ansL (Zb1 b)):=Zaf fRl ⟨b,hb,rfl,rfl⟩
  have hok:=parse_tok b
  have ht:takeT b=if (Zb1 b).2.2=true \/ mayT (Zb1 b).1=false \/ putT (Zb1 b).1 ≠ b then none else some (Zb1 b).1:=by rw [takeT]
  generalize Zb1 b=p at g3 hok ht
  obtain ⟨A,r,d⟩:=p
  simp only at ht hok
  have g1:FK 2 (tP A)=some (if mayT A=true then [pI 0,pBy (putT A)] else [pI 1]):=Zaf fAt ⟨A,hok,rfl,rfl⟩
  cases d with
  | true =>
   rw [if_pos (.inl rfl)] at ht
   rw [Zub ht] at hqs
   rw [ansL,if_pos rfl] at g3
   rw [<- List.append_nil flT]
   refine Zbh names_ok mixed_ok Zgo tc1 hsh ?_ (fun qs a1 wd hq hx=>⟨nofun,fun _ u=>.inr ⟨0,anyV,u,[pBy b],shTP,_,[SX.var 0],hqs,rfl,rfl,hx,by kernel_rfl,by simp [evs,SX.ev] at hq;subst hq;rfl⟩⟩)
   simp [-Zac,Zab,Zaa,Base.ev,SX.ev,evs,Value.oneCell',hF,g3,mtk.v4]
  | false =>
  rw [ansL,if_neg (by simp)] at g3
  cases hm:mayT A with
  | false =>
   rw [hm,if_pos (.inr (.inl rfl))] at ht
   rw [Zub ht] at hqs
   rw [cutT]
   have g3':=g3
   obtain ⟨x1,x2,x3,x4,x5,x6,x7,x8,x9⟩:=A
   simp only [tP,List.cons_append,List.nil_append] at g3
   refine Zad names_ok mixed_ok Zgo tc3 hsh ?_ (fun qs a1 w1 hq hx=>⟨fun _=>?_,fun h=>absurd rfl h⟩)
   ·simp [-Zac,Zab,Zaa,Base.ev,SX.ev,evs,Value.oneCell',hF,g3,mtk.v4]
   ·simp [evs,SX.ev,hF,g3] at hq
    subst hq
    show (nth flT 2).wp _ (Exit.then _ _) a1 w1
    exact noT hok hm hx (fun a' w' pv hx'=>.inr ⟨0,anyV,pv,[pBy b],shTP,_,[SX.var 0],hqs,rfl,rfl,hx',by kernel_rfl,rfl⟩)
  | true =>
   rw [hm,if_pos rfl] at g1
   have rt1:=Zd6 (putT A)
   have rt2:=Zd6 b
   have hne:=eqY (putT A) b
   rw [<- List.append_nil flT]
   by_cases k:putT A=b
   ·rw [if_neg (by simp [hm,k])] at ht
    rw [tqT_yes ht] at hqs
    rw [decide_eq_true k] at hne
    clear k hm hok ht
    generalize putT A=y at *
    obtain ⟨x1,x2,x3,x4,x5,x6,x7,x8,x9⟩:=A
    simp only [tP,List.cons_append,List.nil_append] at g1 g3 hqs
    refine Zad names_ok mixed_ok Zgo tc5 hsh ?_ (fun qs a1 w1 hq hx=>⟨nofun,fun _=>.inl ⟨_,hqs,.inr rfl,shTR,_,[SX.var 1,SX.var 2,SX.var 3,SX.var 4,SX.var 5,SX.var 6,SX.var 7,SX.var 8,SX.var 9,SX.var 0],hx,by kernel_rfl,by simp [evs,SX.ev,hF,g3] at hq;subst hq;rfl⟩⟩)
    simp [-Zac,Zab,Zaa,Base.ev,SX.ev,evs,Value.oneCell',hF,g3,g1,rt1,rt2,hne,mtk.v2,mtk.v4]
   ·rw [if_pos (.inr (.inr k))] at ht
    rw [Zub ht] at hqs
    rw [decide_eq_false k] at hne
    clear k hm hok ht
    generalize putT A=y at *
    obtain ⟨x1,x2,x3,x4,x5,x6,x7,x8,x9⟩:=A
    simp only [tP,List.cons_append,List.nil_append] at g1 g3
    refine Zad names_ok mixed_ok Zgo tc4 hsh ?_ (fun qs a1 w1 hq hx=>⟨nofun,fun _=>.inr ⟨0,anyV,_,[pBy b],shTP,_,[SX.var 0],hqs,rfl,rfl,hx,by kernel_rfl,by simp [evs,SX.ev] at hq;subst hq;rfl⟩⟩)
    simp [-Zac,Zab,Zaa,Base.ev,SX.ev,evs,Value.oneCell',hF,g3,g1,rt1,rt2,hne,mtk.v2,mtk.v4]
noncomputable def FJ:Fns:=fun k=>match k with | 1=>spec RQa | 2=>spec RQt | _=>fun _=>none
theorem j1:ToldQ 49 (EQa 1) [.tuple { toList:=[] }] (FJ 1):=toldQa 1
theorem j2:ToldQ 55 (EQt 2) [.tuple { toList:=[] }] (FJ 2):=toldQt 2
def a00:AskM:=⟨0,0,0,0,e0,0,0,[]⟩
def t00:TellM:=⟨0,0,0,0,0,0,0,0,e0⟩
def tgA:Option AskM->List PV
 | some a=>aP a++[pB true]
 | none=>aP a00++[pB false]
def tgT:Option TellM->List PV
 | some a=>tP a++[pB true]
 | none=>tP t00++[pB false]
def tkA (b:List UInt8):List PV:=tgA (takeA b)
def tkT (b:List UInt8):List PV:=tgT (takeT b)
def RKa (ps qs:List PV):Prop:=∃ b:List UInt8,b.length<=1000000/\ps=[pBy b]/\qs=tkA b
def RKt (ps qs:List PV):Prop:=∃ b:List UInt8,b.length<=1000000/\ps=[pBy b]/\qs=tkT b
theorem fKa:∀ ps q1 q2,RKa ps q1->RKa ps q2->q1=q2:=by
 rintro ps q1 q2 ⟨a,_,rfl,rfl⟩ ⟨b,_,h,rfl⟩
 simp only [List.cons.injEq,and_true] at h
 rw [pBy_inj h]
theorem fKt:∀ ps q1 q2,RKt ps q1->RKt ps q2->q1=q2:=by
 rintro ps q1 q2 ⟨a,_,rfl,rfl⟩ ⟨b,_,h,rfl⟩
 simp only [List.cons.injEq,and_true] at h
 rw [pBy_inj h]
theorem Zai:PV.v (Value.string ⟨⟨[]⟩⟩)=pS e0:=rfl
theorem nilW:PV.row 0 []=pRow encW []:=rfl
theorem toldKa (k:Nat):ToldF 23 (EKa k) (spec RKa):=by
 refine Zbw mixed_ok names_ok FJ [.row] ?_
 intro ps qs h _
 obtain ⟨b,hb,rfl,rfl⟩:=Zag h
 have g:FJ 1 [pBy b]=some (tqA b):=Zaf fQa ⟨b,hb,rfl,rfl⟩
 cases ht:takeA b with
 | none =>
  rw [Zuc ht] at g
  rw [show tkA b=aP a00++[pB false] by show tgA (takeA b)=_;rw [ht];rfl]
  clear ht
  refine ⟨_,_,_,_,_,_,Za1 tab1,ak1,fun w FP=>?_,?_⟩
  ·simp [-Zac,Zab,Zaa,Base.ev,SX.ev,evs,Value.oneCell',g,mtk.j1]
  ·simp [evs,SX.ev,aP,a00,Zai,nilW]
 | some A =>
  rw [tqA_yes ht] at g
  rw [show tkA b=aP A++[pB true] by show tgA (takeA b)=_;rw [ht];rfl]
  clear ht
  obtain ⟨x1,x2,x3,x4,x5,x6,x7,x8⟩:=A
  simp only [aP,List.cons_append,List.nil_append] at *
  refine ⟨_,_,_,_,_,_,Za1 tab1,ak0,fun w FP=>?_,?_⟩
  ·simp [-Zac,Zab,Zaa,Base.ev,SX.ev,evs,Value.oneCell',g,mtk.j1]
  ·simp [evs,SX.ev,g]
theorem toldKt (k:Nat):ToldF 25 (EKt k) (spec RKt):=by
 refine Zbw mixed_ok names_ok FJ [.row] ?_
 intro ps qs h _
 obtain ⟨b,hb,rfl,rfl⟩:=Zag h
 have g:FJ 2 [pBy b]=some (tqT b):=Zaf fQt ⟨b,hb,rfl,rfl⟩
 cases ht:takeT b with
 | none =>
  rw [Zub ht] at g
  rw [show tkT b=tP t00++[pB false] by show tgT (takeT b)=_;rw [ht];rfl]
  clear ht
  refine ⟨_,_,_,_,_,_,Za1 tab1,tk1,fun w FP=>?_,?_⟩
  ·simp [-Zac,Zab,Zaa,Base.ev,SX.ev,evs,Value.oneCell',g,mtk.j2]
  ·simp [evs,SX.ev,tP,t00,Zai]
 | some A =>
  rw [tqT_yes ht] at g
  rw [show tkT b=tP A++[pB true] by show tgT (takeT b)=_;rw [ht];rfl]
  clear ht
  obtain ⟨x1,x2,x3,x4,x5,x6,x7,x8,x9⟩:=A
  simp only [tP,List.cons_append,List.nil_append] at *
  refine ⟨_,_,_,_,_,_,Za1 tab1,tk0,fun w FP=>?_,?_⟩
  ·simp [-Zac,Zab,Zaa,Base.ev,SX.ev,evs,Value.oneCell',g,mtk.j2]
  ·simp [evs,SX.ev,g]
end Go.Proofs.Ytnomiffghidmbaa.mtk
end
end
section
/- Package msg told at asks, tells and bytes that are written down; law 16's begun and MsgForms, by closed runs. -/
namespace Go.Proofs.Ytnomiffghidmbaa.mli
open Go Go.RowKit eng SX Fact fil ima msm
open mrd (Zav)
open mws (aP Zej ESa RSa fSa)
open mas (AOk EMa RMa fMa)
open myt (tP TOk i64 EMt RMt fMt)
open mpa (EPa RPa fPa)
open mpt (EPt RPt fPt)
open mtk (EKa RKa fKa EKt RKt fKt tkA tkT tgA tgT a00 t00)
set_option linter.unusedVariables false
set_option maxRecDepth 1000000
def EMaN (k:Nat):FnE:={ k:=k,ins:=[some 8],leaks:=[false,false,false,false,false,false,false,false],outs:=[none],kinds:=[.num] }
def EMtN (k:Nat):FnE:={ k:=k,ins:=[some 9],leaks:=[false,false,false,false,false,false,false,false,false],outs:=[none],kinds:=[.num] }
def ESaN (k:Nat):FnE:={ k:=k,ins:=[some 8,some 8],leaks:=[false,false,false,false,false,false,false,false,false,false,false,false,false,false,false,false],outs:=[none],kinds:=[.num] }
def EKaN (k:Nat):FnE:={ k:=k,ins:=[none],leaks:=[true],outs:=[some 8,none],kinds:=[.num,.num,.num,.num,.num,.num,.num,.row,.num] }
def EKtN (k:Nat):FnE:={ k:=k,ins:=[none],leaks:=[true],outs:=[some 9,none],kinds:=[.num,.num,.num,.num,.num,.num,.num,.num,.num,.num] }
def decW:List SX->Option (List WrM)
 | []=>some []
 | .con (.int .i64 a) :: .con (.string b) :: r=>(decW r).map ((a,b) :: ·)
 | _=>none
theorem decW_ok:∀ (k:Nat) {es:List SX} {l:List WrM},es.length<=k->decW es=some l->evs0 es=some ((encW.all l).map PV.v)
 | 0,es,l,hk,h=>by
  obtain rfl:es=[]:=List.eq_nil_of_length_eq_zero (by omega)
  simp [decW] at h;subst h;rfl
 | k+1,es,l,hk,h=>by
  unfold decW at h
  split at h
  ·cases h;rfl
  ·rename_i a b r
   simp only [Option.map_eq_some_iff] at h
   obtain ⟨l',h1,rfl⟩:=h
   simp [evs0,ev0,decW_ok k (es:=r) (by simp at hk;omega) h1,Enc.all_cons,encW]
  ·cases h
def decY:List SX->Option (List UInt8)
 | []=>some []
 | .con (.int .u8 (.ofNat a)) :: r=>cond (Nat.blt a 256) ((decY r).map (UInt8.ofNat a :: ·)) none
 | _=>none
theorem decY_ok:∀ (es:List SX) {l:List UInt8},decY es=some l->evs0 es=some (l.map fun b=>.v (.int .u8 b.toNat))
 | [],l,h=>by simp [decY] at h;subst h;rfl
 | e :: r,l,h=>by
  unfold decY at h
  split at h
  ·rename_i h0;cases h0
  ·rename_i a r' h0
   cases h0
   rw [cond_eq_ite] at h
   split at h
   ·rename_i ha
    simp only [Nat.blt_eq] at ha
    simp only [Option.map_eq_some_iff] at h
    obtain ⟨l',h1,rfl⟩:=h
    have e1:(UInt8.ofNat a).toNat=a:=by rw [UInt8.toNat_ofNat'];omega
    simp [evs0,ev0,decY_ok r h1,e1]
   ·cases h
  ·cases h
def sxW (l:List WrM):SX:=.lit l.length (l.flatMap fun p=>[.con (.int .i64 p.1),.con (.string p.2)])
theorem sxW_ok (l:List WrM):ev0 (sxW l)=some (pRow encW l):=by
 have:∀ l:List WrM,evs0 (l.flatMap fun p=>[SX.con (.int .i64 p.1),.con (.string p.2)])=some ((encW.all l).map PV.v):=fun l=>by
  induction l with
  | nil=>rfl
  | cons b l ih=>simp [evs0,ev0,ih,Enc.all_cons,encW]
 simp only [sxW,ev0,this,pRow,Option.map_some]
def sxY (l:List UInt8):SX:=.lit l.length (l.map fun b=>.con (.int .u8 b.toNat))
theorem sxY_ok (l:List UInt8):ev0 (sxY l)=some (pBy l):=by
 have:∀ l:List UInt8,evs0 (l.map fun b=>SX.con (.int .u8 b.toNat))=some (l.map fun b=>.v (.int .u8 b.toNat)):=fun l=>by
  induction l with
  | nil=>rfl
  | cons b l ih=>simp [evs0,ev0,ih]
 simp only [sxY,ev0,this,pBy,Option.map_some]
def le (a b:Int):Bool:=decide (a<=b)
def in64 (z:Int):Bool:=le (-9223372036854775808) z && le z 9223372036854775807
theorem Zf6 {z:Int} (h:in64 z=true):-9223372036854775808<=z/\z<=9223372036854775807:=by
 simpa [in64,le] using h
def aokB (a:AskM):Bool:=in64 a.epoch && (in64 a.seq && (Nat.ble a.name.size 1000 && (Nat.ble a.writes.length 1000 && a.writes.all fun w=>in64 w.1 && Nat.ble w.2.size 1000)))
theorem aokB_ok {a:AskM} (h:aokB a=true):AOk a:=by
 simp only [aokB,Bool.and_eq_true,Nat.ble_eq,List.all_eq_true] at h
 obtain ⟨h1,h2,h3,h4,h5⟩:=h
 refine ⟨Zf6 h1,Zf6 h2,by omega,by omega,fun w hw=>?_⟩
 have:=Zf6 (h5 w hw).1
 have:=(h5 w hw).2
 exact ⟨by omega,by omega,by omega⟩
def tokB (t:TellM):Bool:=in64 t.kind && (in64 t.to && (in64 t.epoch && (in64 t.seq && (in64 t.err && (in64 t.file && (in64 t.mode && (in64 t.ver && Nat.ble t.body.size 1000)))))))
theorem tokB_ok {t:TellM} (h:tokB t=true):TOk t:=by
 simp only [tokB,Bool.and_eq_true,Nat.ble_eq] at h
 obtain ⟨h1,h2,h3,h4,h5,h6,h7,h8,h9⟩:=h
 exact ⟨Zf6 h1,Zf6 h2,Zf6 h3,Zf6 h4,Zf6 h5,Zf6 h6,Zf6 h7,Zf6 h8,by omega⟩
def sxA (a:AskM):List SX:=[.con (.int .i64 a.kind),.con (.int .i64 a.frm),.con (.int .i64 a.epoch),.con (.int .i64 a.seq),.con (.string a.name),.con (.int .i64 a.file),.con (.int .i64 a.mode),sxW a.writes]
def sxT (t:TellM):List SX:=[.con (.int .i64 t.kind),.con (.int .i64 t.to),.con (.int .i64 t.epoch),.con (.int .i64 t.seq),.con (.int .i64 t.err),.con (.int .i64 t.file),.con (.int .i64 t.mode),.con (.int .i64 t.ver),.con (.string t.body)]
theorem Zix:∀ {a b:List SX} {p q:List PV},evs0 a=some p->evs0 b=some q->evs0 (a++b)=some (p++q)
 | [],b,p,q,h,hb=>by simp [evs0] at h;subst h;simpa using hb
 | e :: a,b,p,q,h,hb=>by
  simp only [evs0,Option.bind_eq_some_iff,Option.map_eq_some_iff] at h
  obtain ⟨x,hx,y,hy,rfl⟩:=h
  simp [evs0,hx,Zix hy hb]
theorem sxA_ok (a:AskM):evs0 (sxA a)=some (aP a):=by simp [sxA,evs0,ev0,sxW_ok,aP]
theorem sxT_ok (t:TellM):evs0 (sxT t)=some (tP t):=by simp [sxT,evs0,ev0,tP]
def decA:List SX->Option AskM
 | [.con (.int .i64 k),.con (.int .i64 f),.con (.int .i64 e),.con (.int .i64 s),.con (.string n),.con (.int .i64 i),.con (.int .i64 m),.lit c xs]=>(decW xs).bind fun ws=>cond (Nat.beq ws.length c && aokB ⟨k,f,e,s,n,i,m,ws⟩) (some ⟨k,f,e,s,n,i,m,ws⟩) none
 | _=>none
theorem Zp9 {es:List SX} {a:AskM} (h:decA es=some a):evs0 es=some (aP a)/\AOk a:=by
 unfold decA at h
 split at h
 ·rename_i k f e s n i m c xs
  simp only [Option.bind_eq_some_iff,cond_eq_ite] at h
  obtain ⟨ws,h1,h⟩:=h
  split at h
  ·rename_i hc
   simp only [Bool.and_eq_true,Nat.beq_eq] at hc
   obtain ⟨rfl,h2⟩:=hc
   cases h
   exact ⟨by simp [evs0,ev0,decW_ok _ (Nat.le_refl _) h1,aP,pRow],aokB_ok h2⟩
  ·cases h
 ·cases h
def decT:List SX->Option TellM
 | [.con (.int .i64 a),.con (.int .i64 b),.con (.int .i64 c),.con (.int .i64 d),.con (.int .i64 e),.con (.int .i64 f),.con (.int .i64 g),.con (.int .i64 h),.con (.string s)]=>cond (tokB ⟨a,b,c,d,e,f,g,h,s⟩) (some ⟨a,b,c,d,e,f,g,h,s⟩) none
 | _=>none
theorem decT_ok {es:List SX} {t:TellM} (h:decT es=some t):evs0 es=some (tP t)/\TOk t:=by
 unfold decT at h
 split at h
 ·rw [cond_eq_ite] at h
  split at h
  ·rename_i hc
   cases h
   exact ⟨by simp [evs0,ev0,tP],tokB_ok hc⟩
  ·cases h
 ·cases h
def decB:List SX->Option (List UInt8)
 | [.lit c xs]=>(decY xs).bind fun l=>cond (Nat.beq l.length c && Nat.ble c 1000) (some l) none
 | _=>none
theorem Zbx {es:List SX} {l:List UInt8} (h:decB es=some l):evs0 es=some [pBy l]/\l.length<=1000000:=by
 unfold decB at h
 split at h
 ·rename_i c xs
  simp only [Option.bind_eq_some_iff,cond_eq_ite] at h
  obtain ⟨l',h1,h⟩:=h
  split at h
  ·rename_i hc
   simp only [Bool.and_eq_true,Nat.beq_eq,Nat.ble_eq] at hc
   obtain ⟨rfl,h2⟩:=hc
   cases h
   exact ⟨by simp [evs0,ev0,decY_ok _ h1,pBy],by omega⟩
  ·cases h
 ·cases h
def litMa (es:List SX):Option (List SX):=(decA es).map fun a=>[.con (.bool (mayA a))]
theorem litMa_ok:LitOk 13 (EMaN 1) litMa:=by
 refine ⟨spec RMa,Zav (mat.toldMaP 1) rfl rfl rfl rfl,?_⟩
 intro es rs h
 simp only [litMa,Option.map_eq_some_iff] at h
 obtain ⟨a,h1,rfl⟩:=h
 obtain ⟨h2,h3⟩:=Zp9 h1
 exact ⟨_,_,h2,Zaf fMa ⟨a,h3,rfl,rfl⟩,rfl⟩
def litMt (es:List SX):Option (List SX):=(decT es).map fun a=>[.con (.bool (mayT a))]
theorem litMt_ok:LitOk 19 (EMtN 2) litMt:=by
 refine ⟨spec RMt,Zav (mat.toldMtP 2) rfl rfl rfl rfl,?_⟩
 intro es rs h
 simp only [litMt,Option.map_eq_some_iff] at h
 obtain ⟨a,h1,rfl⟩:=h
 obtain ⟨h2,h3⟩:=decT_ok h1
 exact ⟨_,_,h2,Zaf fMt ⟨a,h3,rfl,rfl⟩,rfl⟩
def litPa (es:List SX):Option (List SX):=(decA es).map fun a=>[sxY (putA a)]
theorem litPa_ok:LitOk 15 (EPa 3) litPa:=by
 refine ⟨spec RPa,mat.toldPaP 3,?_⟩
 intro es rs h
 simp only [litPa,Option.map_eq_some_iff] at h
 obtain ⟨a,h1,rfl⟩:=h
 obtain ⟨h2,h3⟩:=Zp9 h1
 exact ⟨_,_,h2,Zaf fPa ⟨a,h3,rfl,rfl⟩,by simp [evs0,sxY_ok]⟩
def litPt (es:List SX):Option (List SX):=(decT es).map fun a=>[sxY (putT a)]
theorem litPt_ok:LitOk 21 (EPt 4) litPt:=by
 refine ⟨spec RPt,mat.toldPtP 4,?_⟩
 intro es rs h
 simp only [litPt,Option.map_eq_some_iff] at h
 obtain ⟨a,h1,rfl⟩:=h
 obtain ⟨h2,h3⟩:=decT_ok h1
 exact ⟨_,_,h2,Zaf fPt ⟨a,h3,rfl,rfl⟩,by simp [evs0,sxY_ok]⟩
def otA:Option AskM->List SX
 | some a=>sxA a++[.con (.bool true)]
 | none=>sxA a00++[.con (.bool false)]
theorem otA_ok (o:Option AskM):evs0 (otA o)=some (tgA o):=by
 cases o with
 | none=>exact Zix (sxA_ok _) rfl
 | some a=>exact Zix (sxA_ok _) rfl
def otT:Option TellM->List SX
 | some a=>sxT a++[.con (.bool true)]
 | none=>sxT t00++[.con (.bool false)]
theorem otT_ok (o:Option TellM):evs0 (otT o)=some (tgT o):=by
 cases o with
 | none=>exact Zix (sxT_ok _) rfl
 | some a=>exact Zix (sxT_ok _) rfl
def litKa (es:List SX):Option (List SX):=(decB es).map fun b=>otA (takeA b)
theorem litKa_ok:LitOk 23 (EKaN 5) litKa:=by
 refine ⟨spec RKa,Zav (mtk.toldKa 5) rfl rfl rfl rfl,?_⟩
 intro es rs h
 simp only [litKa,Option.map_eq_some_iff] at h
 obtain ⟨b,h1,rfl⟩:=h
 obtain ⟨h2,h3⟩:=Zbx h1
 exact ⟨_,_,h2,Zaf fKa ⟨b,h3,rfl,rfl⟩,otA_ok _⟩
def litKt (es:List SX):Option (List SX):=(decB es).map fun b=>otT (takeT b)
theorem litKt_ok:LitOk 25 (EKtN 6) litKt:=by
 refine ⟨spec RKt,Zav (mtk.toldKt 6) rfl rfl rfl rfl,?_⟩
 intro es rs h
 simp only [litKt,Option.map_eq_some_iff] at h
 obtain ⟨b,h1,rfl⟩:=h
 obtain ⟨h2,h3⟩:=Zbx h1
 exact ⟨_,_,h2,Zaf fKt ⟨b,h3,rfl,rfl⟩,otT_ok _⟩
def litSa (es:List SX):Option (List SX):=(decA (es.take 8)).bind fun a=>(decA (es.drop 8)).map fun b=>[.con (.bool (decide (a=b)))]
theorem litSa_ok' {es rs:List SX} (h:litSa es=some rs):∃ ps qs,evs0 es=some ps/\spec RSa ps=some qs/\evs0 rs=some qs:=by
 simp only [litSa,Option.bind_eq_some_iff,Option.map_eq_some_iff] at h
 obtain ⟨a,h1,b,h2,rfl⟩:=h
 obtain ⟨h3,h4⟩:=Zp9 h1
 obtain ⟨h5,h6⟩:=Zp9 h2
 have h7:=Zix h3 h5
 rw [List.take_append_drop] at h7
 exact ⟨_,_,h7,Zaf fSa ⟨a,b,h4.len,h6.len,rfl,rfl⟩,rfl⟩
theorem litSa_ok:LitOk 17 (ESaN 7) litSa:=⟨spec RSa,Zav (meq.toldSe 7) rfl rfl rfl rfl,fun es rs h=>litSa_ok' h⟩
theorem litSd_ok:LitOk 18 (ESaN 8) litSa:=⟨spec RSa,Zav (mws.toldSa 8) rfl rfl rfl rfl,fun es rs h=>litSa_ok' h⟩
def tabM6 (f:FuncId):Option (FnE × (List SX->Option (List SX))):=cond (Nat.beq f 13) (some (EMaN 1,litMa)) (cond (Nat.beq f 19) (some (EMtN 2,litMt)) (cond (Nat.beq f 15) (some (EPa 3,litPa)) (cond (Nat.beq f 21) (some (EPt 4,litPt)) (cond (Nat.beq f 23) (some (EKaN 5,litKa)) (cond (Nat.beq f 25) (some (EKtN 6,litKt)) (cond (Nat.beq f 17) (some (ESaN 7,litSa)) (cond (Nat.beq f 18) (some (ESaN 8,litSa)) (none))))))))
theorem tabM6_ok:∀ f E lit,tabM6 f=some (E,lit)->LitOk f E lit:=by
 intro f E lit h
 simp only [tabM6,cond_eq_ite,Nat.beq_eq] at h
 split at h
 ·rename_i hf;subst hf;cases h;exact litMa_ok
 split at h
 ·rename_i hf;subst hf;cases h;exact litMt_ok
 split at h
 ·rename_i hf;subst hf;cases h;exact litPa_ok
 split at h
 ·rename_i hf;subst hf;cases h;exact litPt_ok
 split at h
 ·rename_i hf;subst hf;cases h;exact litKa_ok
 split at h
 ·rename_i hf;subst hf;cases h;exact litKt_ok
 split at h
 ·rename_i hf;subst hf;cases h;exact litSa_ok
 split at h
 ·rename_i hf;subst hf;cases h;exact litSd_ok
 ·cases h
def orcE:Orc:=Zum tabM6
theorem orcE_ok:OrcOk Try.prog orcE:=orcLit_ok tabM6 tabM6_ok
theorem ranB:Zp4 (runTo Try.prog orcE 100000 8 (ETrue 8) [] [] hStop)=true:=by kernel_rfl
theorem begunLit (k:Nat):ToldF 8 (ETrue 8) (spec RTrue):=told_lit fil.mixed_ok fil.names_ok orcE_ok (fun ps qs h=>Zag h) ranB
end Go.Proofs.Ytnomiffghidmbaa.mli
end
