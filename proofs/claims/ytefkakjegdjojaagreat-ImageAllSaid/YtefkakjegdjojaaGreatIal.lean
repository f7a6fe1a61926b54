/- ImageAll by the symbolic engine. -/
import Derived.Test.YtefkakjegdjojaaGreatIlx
import Derived.Test.YtefkakjegdjojaaGreatFrameB
import Derived.OpenShut
import Derived.Test.YtefkakjegdjojaaGreatEng30
import Derived.Test.YtefkakjegdjojaaGreatItk
import Derived.Test.YtefkakjegdjojaaGreatIdd
namespace Go.Proofs.YtefkakjegdjojaaGreat.imageAll
open Go Go.RowKit eng SX Fact fil ima symD sta ise ieq
open ilx (ESmT made30)
open ipd (EPuI EDfI RPuI RDfI fPuI fDfI difI)
open itc (ETj RTj fTj)
open itk (RTi7 fTi7)
open idd (ESP RDf7 RSPq fDf7 fSPq)
open iti (ETi ansT)
open idf (encQ encS_inj cellS)
open dirs (encF cellF FileM)
open fileFronts (Zae rowU)
open pck hiding F F20 F21
set_option linter.unusedVariables false
set_option linter.unusedSimpArgs false
set_option maxRecDepth 1000000

def EN4 (E:FnE):FnE:={ E with kinds:=[.row,.row,.num,.num] }
def tabA (f:FuncId):Option FnE:=cond (Nat.beq f 22) (some (EPuI 1)) (cond (Nat.beq f 23) (some (EN4 (ETj 2))) (cond (Nat.beq f 26) (some (EDfI 3)) (cond (Nat.beq f 20) (some (ESmT 5)) (cond (Nat.beq f 21) (some (ETrue 7)) (cond (Nat.beq f 17) (some (ESq 8)) (cond (Nat.beq f 18) (some (EPuI 9)) (cond (Nat.beq f 24) (some (EN4 (ETi 10))) (cond (Nat.beq f 27) (some (EDfI 11)) (cond (Nat.beq f 25) (some (ESP 12)) none)))))))))
def tabAP (f:FuncId):Option PtrE:=cond (Nat.beq f 16) (some (sta.ESt 24)) none
def orcA:Orc:=orcOr (orcFn tabA) (orcP tabAP)
def isOw (o:Oper):Bool:=match o.op with | .call { callee:=.builtin .append,.. }=>true | .indexAddr ..=>true | _=>false
def isLz (o:Oper):Bool:=match o.op with | .binOp ..=>false | .unOp ..=>false | _=>true
def hA (f:FuncId) (o:Oper):Option Hint:=cond (Nat.beq f 7) (cond (isOw o) (some .own) (cond (isLz o) (some .lazy) none)) none
noncomputable def flA:=flat (Zar Tryz.prog 7)
noncomputable def lpA:=flat (Zak (nth flA 6))
def sh0:Shape:=⟨[(0,.leaf),(1,.leaf),(2,.leaf),(3,.leaf),(4,.leaf),(5,.leaf)],[],[some true,none,none,none,some true,none],148,7⟩
def shA:Shape:=⟨[(0,.leaf),(1,.leaf),(2,.leaf),(3,.leaf),(4,.leaf),(5,.leaf),(13,.leaf)],[],[some true,none,none,none,some true,none,none],148,7⟩
def shL:Shape:=⟨[(1,.leaf),(2,.leaf),(3,.leaf),(4,.leaf),(5,.leaf),(15,.leaf)],[],[none,none,none,some true,none,some true],148,7⟩
def shM:Shape:=⟨[(4,.leaf),(5,.leaf),(15,.leaf),(16,.leaf)],[],[some true,none,some true,some true],148,7⟩
def shE:Shape:=⟨[(12,.leaf)],[],[none],148,7⟩
@[simp] def Zdj:SX:=rop ROp.ofStr [.cell (rop ROp.cat [.lit 0 [],.var 5]) (.bin .rem (.conv .i64 (.var 0)) (.len (rop ROp.cat [.lit 0 [],.var 5]))) 1 0]
@[simp] def Zeh:List SX:=[.fn 24 [.con (.int .i64 30),.var 0,.con (.int .i64 0)] 0,.fn 24 [.con (.int .i64 30),.var 0,.con (.int .i64 0)] 1,.fn 24 [.con (.int .i64 30),.var 0,.con (.int .i64 0)] 2]
@[simp] def Zeg:SX:=.bin .sub (.len (.var 2)) (rop ROp.min2 [.len (.var 2),.conv .i64 (.bin .rem (.var 1) (.con (.int .u8 3)))])
@[simp] def Zsq:SX:=rop (ROp.upd 1 0) [Zdj,.bin .rem (.conv .i64 (.var 1)) (.len Zdj),.op (Op.binOp .xor 5 (Operand.tmp 82) (Operand.tmp 83) 5) 5 [82,83] [.cell Zdj (.bin .rem (.conv .i64 (.var 1)) (.len Zdj)) 1 0,.var 2]]
@[simp] def Zh0:SX:=.bin .rem (.conv .i64 (.var 0)) (.len (rop ROp.cat [.lit 0 [],.var 5]))
@[simp] def Zfj:SX:=rop ROp.min2 [.con (.int .i64 0),.con (.int .i64 0)]
@[simp] def Zjg:SX:=.bin .rem (.conv .i64 (.var 1)) (.len Zdj)
@[simp] def Zjf:SX:=.bin .gtr (.len (.var 0)) (.con (.int .i64 60))
@[simp] def Zpp:SX:=.bin .gtr (.slen (.cell (.var 4) (.var 6) 1 0)) (.con (.int .i64 40))
@[simp] def Ze3:SX:=rop ROp.cat [.lit 0 [],.var 5]
@[simp] def Zh1:SX:=.bin .lss (.var 6) (.len (.var 4))
@[simp] def Znd:SX:=.bin .gtr (.len (.var 4)) (.con (.int .i64 12))
@[simp] def zGreatIal13:SX:=rop ROp.neB [.fn 2 [SX.sub (.var 2) Zfj Zeg 1] 3,.fn 10 [SX.sub (.var 2) Zfj Zeg 1] 3]
@[simp] def Znc:List SX:=[.lit 0 [],.lit 0 [],.con (.int .i64 0)]
@[simp] def Zrb:List SX:=[.con (.int .i64 30),.var 0,.con (.int .i64 0)]
@[simp] def zGreatIal16:SX:=rop (ROp.upd 1 0) [Ze3,Zh0,rop ROp.toStr [Zsq]]
theorem q1:segTo Tryz.prog orcA 10000 flA sh0 [1,1] shE []=some (.ret,[.fn 21 (ETrue 7) [],.is (.fn 7 [] 0) (.bool true),.ok (.len (.var 0)),.ok Zjf,.is Zjf (.bool true),.ok (.con (.bool true))],[.con (.bool true)]):=by kernel_rfl
theorem q2:segTo Tryz.prog orcA 10000 flA sh0 [1,0,1] shE []=some (.ret,[.fn 21 (ETrue 7) [],.is (.fn 7 [] 0) (.bool true),.ok (.len (.var 0)),.ok Zjf,.is Zjf (.bool false),.ok (.len (.var 4)),.ok Znd,.is Znd (.bool true),.ok (.con (.bool true))],[.con (.bool true)]):=by kernel_rfl
theorem pre:segTo Tryz.prog orcA 10000 (flA.take 6) sh0 [1,0,0] shA [] hA=some (.normal,[.fn 21 (ETrue 7) [],.is (.fn 7 [] 0) (.bool true),.ok (.len (.var 0)),.ok Zjf,.is Zjf (.bool false),.ok (.len (.var 4)),.ok Znd,.is Znd (.bool false),.ok (.var 1),.ok (.var 2),.ok (.var 3),.ok (.var 5),.ok (.con (.int .i64 0))],[.var 0,.var 1,.var 2,.var 3,.var 4,.var 5,.con (.int .i64 0)]):=by kernel_rfl
theorem ax:segTo Tryz.prog orcA 10000 lpA shA [0] shA [] hA=some (.exit 0,[.ok (.len (.var 4)),.ok Zh1,.is Zh1 (.bool false),.ok (.var 1),.ok (.var 2),.ok (.var 3),.ok (.var 5),.ok (.var 6)],[.var 0,.var 1,.var 2,.var 3,.var 4,.var 5,.var 6]):=by kernel_rfl
theorem ao:segTo Tryz.prog orcA 10000 lpA shA [1,0] shA [] hA=some (.normal,[.ok (.len (.var 4)),.ok Zh1,.is Zh1 (.bool true),.idx (.var 4) (.var 6) 1 1,.idx (.var 4) (.var 6) 1 1,.ok (.cell (.var 4) (.var 6) 1 0),.ok (.slen (.cell (.var 4) (.var 6) 1 0)),.ok Zpp,.is Zpp (.bool false),.ok (.bin .add (.var 6) (.con (.int .i64 1))),.ok (.var 1),.ok (.var 2),.ok (.var 3),.ok (.var 5),.ok (.bin .add (.var 6) (.con (.int .i64 1)))],[.var 0,.var 1,.var 2,.var 3,.var 4,.var 5,.bin .add (.var 6) (.con (.int .i64 1))]):=by kernel_rfl
theorem ae:segTo Tryz.prog orcA 10000 lpA shA [1,1] shE [] hA=some (.ret,[.ok (.len (.var 4)),.ok Zh1,.is Zh1 (.bool true),.idx (.var 4) (.var 6) 1 1,.idx (.var 4) (.var 6) 1 1,.ok (.cell (.var 4) (.var 6) 1 0),.ok (.slen (.cell (.var 4) (.var 6) 1 0)),.ok Zpp,.is Zpp (.bool true),.ok (.con (.bool true))],[.con (.bool true)]):=by kernel_rfl
theorem mk1:segTo Tryz.prog orcA 10000 ((flA.drop 7).take 4) shA [1,0] shL [] hA=some (.normal,[.fp 16 (sta.ESt 24) Zrb,.ok (.fn 24 Zrb 2),.ok (.fn 24 Zrb 4),.fn 22 (EPuI 1) Zeh,.fn 18 (EPuI 9) Zeh,.fn 17 (ESq 8) [.fn 1 Zeh 0,.fn 9 Zeh 0],.is (.fn 8 [.fn 1 Zeh 0,.fn 9 Zeh 0] 0) (.bool true),.ok (.len (.fn 1 Zeh 0)),.ok (.bin .eql (.len (.fn 1 Zeh 0)) (.con (.int .i64 0))),.is (.bin .eql (.len (.fn 1 Zeh 0)) (.con (.int .i64 0))) (.bool false),.ok (.var 1),.ok (.var 2),.ok (.var 3),.ok (.var 5)],[.var 1,.var 2,.var 3,.var 4,.var 5,.fn 1 Zeh 0]):=by kernel_rfl
theorem mk2:segZ Tryz.prog orcA 10000 ((flA.drop 11).take 5) shL [] [16] shM [] hA=some ([cells (.var 5) 1,same (.len (.lit 0 [])) (.len (.lit 0 [])),upto (.len Ze3) 4294967296,.ok (.conv .i64 (.var 0)),.ok Zh0,rng Zh0 (.len Ze3),.idx Ze3 Zh0 1 1,upto (.slen (.cell Ze3 Zh0 1 0)) 4294967296,.ok (.conv .i64 (.var 1)),.ok Zjg,rng Zjg (.len Zdj),.idx Zdj Zjg 1 1,.ok (.op (Op.binOp .xor 5 (Operand.tmp 82) (Operand.tmp 83) 5) 5 [82,83] [.cell Zdj Zjg 1 0,.var 2]),rng Zjg (.len Zdj),.idx Zdj Zjg 1 1,same (.len Zdj) (.len Zsq),.ok (rop ROp.toStr [Zsq]),rng Zh0 (.len Ze3),.idx Ze3 Zh0 1 1,same (.len Ze3) (.len zGreatIal16),.ok (.var 4)],[.var 3,.var 4,.var 5,zGreatIal16]):=by kernel_rfl
def z1:List SX:=[.fn 2 [.var 2] 0,.fn 2 [.var 2] 1,.fn 2 [.var 2] 2,.fn 10 [.var 2] 0,.fn 10 [.var 2] 1,.fn 10 [.var 2] 2]
def z2:List SX:=[.fn 2 [.var 3] 0,.fn 2 [.var 3] 1,.fn 2 [.var 3] 2,.fn 10 [.var 3] 0,.fn 10 [.var 3] 1,.fn 10 [.var 3] 2]
def z3:List SX:=[.fn 2 [.var 0] 0,.fn 2 [.var 0] 1,.fn 2 [.var 0] 2,.fn 10 [.var 0] 0,.fn 10 [.var 0] 1,.fn 10 [.var 0] 2]
def z4:List SX:=[.fn 2 [SX.sub (.var 2) (rop ROp.min2 [.con (.int .i64 0),.con (.int .i64 0)]) (.bin .sub (.len (.var 2)) (rop ROp.min2 [.len (.var 2),.conv .i64 (.bin .rem (.var 1) (.con (.int .u8 3)))])) 1] 0,.fn 2 [SX.sub (.var 2) (rop ROp.min2 [.con (.int .i64 0),.con (.int .i64 0)]) (.bin .sub (.len (.var 2)) (rop ROp.min2 [.len (.var 2),.conv .i64 (.bin .rem (.var 1) (.con (.int .u8 3)))])) 1] 1,.fn 2 [SX.sub (.var 2) (rop ROp.min2 [.con (.int .i64 0),.con (.int .i64 0)]) (.bin .sub (.len (.var 2)) (rop ROp.min2 [.len (.var 2),.conv .i64 (.bin .rem (.var 1) (.con (.int .u8 3)))])) 1] 2,.fn 10 [SX.sub (.var 2) (rop ROp.min2 [.con (.int .i64 0),.con (.int .i64 0)]) (.bin .sub (.len (.var 2)) (rop ROp.min2 [.len (.var 2),.conv .i64 (.bin .rem (.var 1) (.con (.int .u8 3)))])) 1] 0,.fn 10 [SX.sub (.var 2) (rop ROp.min2 [.con (.int .i64 0),.con (.int .i64 0)]) (.bin .sub (.len (.var 2)) (rop ROp.min2 [.len (.var 2),.conv .i64 (.bin .rem (.var 1) (.con (.int .u8 3)))])) 1] 1,.fn 10 [SX.sub (.var 2) (rop ROp.min2 [.con (.int .i64 0),.con (.int .i64 0)]) (.bin .sub (.len (.var 2)) (rop ROp.min2 [.len (.var 2),.conv .i64 (.bin .rem (.var 1) (.con (.int .u8 3)))])) 1] 2]
def z5:List SX:=[.fn 3 [.var 2,.var 3] 0,.fn 11 [.var 2,.var 3] 0]
theorem en:segTo Tryz.prog orcA 10000 (flA.drop 16) shM [0,1,0,1,0,1,0,1,1,1] shE [] hA=some (.ret,[.ok (.len (.var 2)),.ok (.len (.var 2)),.ok (.bin .rem (.var 1) (.con (.int .u8 3))),.ok (.conv .i64 (.bin .rem (.var 1) (.con (.int .u8 3)))),.ok (rop ROp.min2 [.len (.var 2),.conv .i64 (.bin .rem (.var 1) (.con (.int .u8 3)))]),.ok Zeg,le3 Zfj Zeg (.len (.var 2)),.fn 23 (EN4 (ETj 2)) [.var 2],.ok (.fn 2 [.var 2] 2),.ok (.fn 2 [.var 2] 3),.fn 24 (EN4 (ETi 10)) [.var 2],.ok (.fn 10 [.var 2] 2),.ok (.fn 10 [.var 2] 3),.ok (rop ROp.neB [.fn 2 [.var 2] 3,.fn 10 [.var 2] 3]),.is (rop ROp.neB [.fn 2 [.var 2] 3,.fn 10 [.var 2] 3]) (.bool false),.fn 20 (ESmT 5) z1,.is (.fn 5 z1 0) (.bool true),.fn 23 (EN4 (ETj 2)) [.var 3],.ok (.fn 2 [.var 3] 2),.ok (.fn 2 [.var 3] 3),.fn 24 (EN4 (ETi 10)) [.var 3],.ok (.fn 10 [.var 3] 2),.ok (.fn 10 [.var 3] 3),.ok (rop ROp.neB [.fn 2 [.var 3] 3,.fn 10 [.var 3] 3]),.is (rop ROp.neB [.fn 2 [.var 3] 3,.fn 10 [.var 3] 3]) (.bool false),.fn 20 (ESmT 5) z2,.is (.fn 5 z2 0) (.bool true),.fn 23 (EN4 (ETj 2)) [.var 0],.ok (.fn 2 [.var 0] 2),.ok (.fn 2 [.var 0] 3),.fn 24 (EN4 (ETi 10)) [.var 0],.ok (.fn 10 [.var 0] 2),.ok (.fn 10 [.var 0] 3),.ok (rop ROp.neB [.fn 2 [.var 0] 3,.fn 10 [.var 0] 3]),.is (rop ROp.neB [.fn 2 [.var 0] 3,.fn 10 [.var 0] 3]) (.bool false),.fn 20 (ESmT 5) z3,.is (.fn 5 z3 0) (.bool true),.fn 23 (EN4 (ETj 2)) [SX.sub (.var 2) Zfj Zeg 1],.ok (.fn 2 [SX.sub (.var 2) Zfj Zeg 1] 2),.ok (.fn 2 [SX.sub (.var 2) Zfj Zeg 1] 3),.fn 24 (EN4 (ETi 10)) [SX.sub (.var 2) Zfj Zeg 1],.ok (.fn 10 [SX.sub (.var 2) Zfj Zeg 1] 2),.ok (.fn 10 [SX.sub (.var 2) Zfj Zeg 1] 3),.ok zGreatIal13,.is zGreatIal13 (.bool false),.fn 20 (ESmT 5) z4,.is (.fn 5 z4 0) (.bool true),.fn 26 (EDfI 3) [.var 2,.var 3],.fn 27 (EDfI 11) [.var 2,.var 3],.fn 25 (ESP 12) z5,.is (.fn 12 z5 0) (.bool true),.fn 22 (EPuI 1) Znc,.ok (.len (.fn 1 Znc 0)),.ok (.bin .eql (.len (.fn 1 Znc 0)) (.con (.int .i64 0))),.is (.bin .eql (.len (.fn 1 Znc 0)) (.con (.int .i64 0))) (.bool true),.ok (.con (.bool true))],[.con (.bool true)]):=by kernel_rfl

theorem strs_of {w:World} {v:Value} {xs:List (List Value)} (h:Zvx [.str] w v xs):∃ l:List ByteArray,l.length=xs.length/\(∀ s ∈ l,s.size<=9223372036854775807)/\Reads w (pRow encS l) v:=by
 obtain ⟨hx,a,cap,rfl,h1,h2,h3⟩:=h
 have hs:∀ x ∈ xs,∃ s:ByteArray,x=[.string s]/\s.size<=maxLen:=fun x hm=>by
  obtain ⟨hl,hk⟩:=hx x hm
  match x,hl with
  | [u],_ =>
   obtain ⟨s,rfl,hs⟩:=hk 0 _ u rfl rfl
   exact ⟨s,rfl,hs⟩
 let f:List Value->ByteArray:=fun x=>match x with | [.string s]=>s | _=>⟨⟨[]⟩⟩
 refine ⟨xs.map f,by simp,fun s hm=>?_,?_⟩
 ·obtain ⟨x,hx',rfl⟩:=List.mem_map.1 hm
  obtain ⟨s,rfl,hs⟩:=hs x hx'
  exact Zlv hs
 ·rw [reads_row]
  refine ⟨a,cap,by simp,by simpa using h1,h2,fun hp=>?_⟩
  simp only [List.length_map] at hp
  obtain ⟨b,off,rfl,hc⟩:=h3 hp
  refine ⟨b,off,rfl,?_,fun i u hu=>?_⟩
  ·obtain ⟨s,hs0,_⟩:=hs xs[0] (List.getElem_mem hp)
   have:=hc 0 xs[0] 0 (.string s) (List.getElem?_eq_getElem hp) (by rw [hs0];rfl)
   exact World.block_lt_of_cell? w _ this
  ·have hal:encS.all (xs.map f)=xs.map fun x=>Value.string (f x):=by
    simp only [Enc.all,encS,List.flatMap_map]
    clear hs h3 h1 hu hc hx hp
    induction xs with
    | nil=>rfl
    | cons y ys ih=>simp only [List.flatMap_cons,List.map_cons,List.singleton_append,ih]
   rw [hal,List.getElem?_map,Option.map_eq_some_iff] at hu
   obtain ⟨x,hxi,rfl⟩:=hu
   obtain ⟨s,rfl,_⟩:=hs x (List.mem_of_getElem? hxi)
   have:=hc i _ 0 (.string s) hxi rfl
   simpa using this
theorem sub_takeE {α:Type} (E:Enc α) (xs:List α) (k:Nat) (h:k<=xs.length):subPV (pRow E xs) (pI 0) (pI (k:Int)) E.sz=some (pRow E (xs.take k)):=by
 have h1:(0:Int)<=(k:Int):=by omega
 have h2:(k:Int)<=(xs.length:Int):=by omega
 have hl:((E.all (xs.take k)).map PV.v).length=k * E.sz:=by
  rw [List.length_map,Enc.all_length,List.length_take,Nat.min_eq_left h]
 have ha:E.all xs=E.all (xs.take k)++E.all (xs.drop k):=by rw [<- Enc.all_append,List.take_append_drop]
 simp only [subPV,pRow,h1,h2,decide_true,Bool.and_self,cond_true,Int.le_refl,Int.toNat_natCast,Int.toNat_zero,Nat.sub_zero,Nat.zero_mul,List.drop_zero,List.length_take,Nat.min_eq_left h]
 rw [ha,List.map_append,<- hl,List.take_left' rfl]
set_option maxHeartbeats 2000000 in
def ELaw (k:Nat):FnE:={ k:=k,ins:=[none,none,none,none,none,none],leaks:=[true,false,false,false,true,false],outs:=[none],kinds:=[.truth] }
def RL (ps qs:List PV):Prop:=∃ (p:List Nat) (a k y:Nat) (l:List ByteArray) (c:Nat),p.length<=9223372036854775807/\(∀ z ∈ p,z < 256)/\a < 256/\k < 256/\y < 256/\l.length<=9223372036854775807/\(∀ s ∈ l,s.size<=9223372036854775807)/\c < 256/\ps=[pRow encU p,pU (a:Int),pU (k:Int),pU (y:Int),pRow encS l,pU (c:Int)]/\qs=[pB true]
theorem fL:∀ ps q1 q2,RL ps q1->RL ps q2->q1=q2:=by
 rintro ps q1 q2 ⟨_,_,_,_,_,_,_,_,_,_,_,_,_,_,_,rfl⟩ ⟨_,_,_,_,_,_,_,_,_,_,_,_,_,_,_,rfl⟩;rfl
noncomputable def G:Fns:=fun k=>match k with | 1=>spec RPuI | 2=>spec RTj | 3=>spec RDfI | 5=>spec RSmS | 7=>spec RTrue | 8=>spec RSq | 9=>spec RPuI | 10=>spec RTi7 | 11=>spec RDf7 | 12=>spec RSPq | 24=>spec RSt | _=>fun _=>none
theorem u1:ToldF 22 (EPuI 1) (G 1):=ipd.toldPuI 1
theorem u2:ToldF 23 (EN4 (ETj 2)) (G 2):=Zgo (itc.toldTj 2) rfl rfl rfl rfl rfl
theorem u3:ToldF 26 (EDfI 3) (G 3):=ipd.toldDfI 3
theorem u5:ToldF 20 (ESmT 5) (G 5):=Zgo (toldSmD 5) rfl rfl rfl rfl rfl
theorem u7:ToldF 21 (ETrue 7) (G 7):=ilx.toldBg 7
theorem u8:ToldF 17 (ESq 8) (G 8):=ist.toldSt5 8
theorem u9:ToldF 18 (EPuI 9) (G 9):=imp.toldPuID 9
theorem u10:ToldF 24 (EN4 (ETi 10)) (G 10):=Zgo (itk.toldTi7 10) rfl rfl rfl rfl rfl
theorem u11:ToldF 27 (EDfI 11) (G 11):=idd.toldDf7 11
theorem u12:ToldF 25 (ESP 12) (G 12):=idd.toldSPq 12
theorem u24:ToldP 16 (sta.ESt 24) (G 24):=sta.toldSt 24
theorem G7:G 7 []=some [pB true]:=Zal fTrue ⟨rfl,rfl⟩
@[simp] theorem kN4 (E:FnE):(EN4 E).k=E.k:=rfl
@[simp] theorem kTj (k:Nat):(ETj k).k=k:=rfl
@[simp] theorem kESP (k:Nat):(ESP k).k=k:=rfl
@[simp] theorem kSt24 (k:Nat):(sta.ESt k).k=k:=rfl
theorem Znx:OrcOk Tryz.prog orcA:=Znw (Zai tabA) (Zh7 tabAP)
theorem cutA:flA=flA.take 6++.block (Zao (nth flA 6)) (.loop (Zak (nth flA 6))) :: ((flA.drop 7).take 4++((flA.drop 11).take 5++flA.drop 16)):=by kernel_rfl
def s00:StM:=⟨[],[],0⟩
def ansS (o:Option StM):StM:=o.getD s00
theorem ans_eq (o:Option StM):ansT o=[pRow encF (ansS o).files,pRow encM (ansS o).marks,pI (ansS o).epoch,pB o.isSome]:=by cases o <;> rfl
theorem ans_small (l:List ByteArray):(ansS (takeI l)).files.length<=1000000/\(ansS (takeI l)).marks.length<=1000000:=by
 cases h:takeI l with
 | none=>exact ⟨by simp [ansS,s00],by simp [ansS,s00]⟩
 | some s =>
  have:=(Zh6.1 h).1
  exact ⟨by show s.files.length<=_;rw [this.fl];omega,by show s.marks.length<=_;rw [this.ml];omega⟩
theorem both (l:List ByteArray) (hl:l.length<=1000) (hs:∀ a ∈ l,a.size<=1000):∃ (x y:PV) (e:Int) (b:Bool),G 2 [pRow encS l]=some [x,y,pI e,pB b]/\G 10 [pRow encS l]=some [x,y,pI e,pB b]/\G 5 [x,y,pI e,x,y,pI e]=some [pB true]/\ropPV .neB [pB b,pB b]=some (pB false):=by
 obtain ⟨h1,h2⟩:=ans_small l
 refine ⟨_,_,_,_,Zal fTj ⟨l,by omega,rfl,(ans_eq (takeI l)).symm⟩,Zal fTi7 ⟨l,hl,hs,rfl,(ans_eq (takeI l)).symm⟩,Zal fSmS ⟨ansS (takeI l),ansS (takeI l),h1,h2,h1,h2,rfl,by rw [sameS_iff.2 rfl]⟩,by cases (takeI l).isSome <;> rfl⟩
theorem op_xor (x y:Int) (t t':TypeId) (a b:Nat) (hab:Nat.beq a b=false):opVal Tryz.prog (Op.binOp .xor t (Operand.tmp a) (Operand.tmp b) t) t' [a,b] [.int .u8 x,.int .u8 y]=some (.int .u8 (bits .xor .u8 x y)):=by
 have hb:Nat.beq b b=true:=Nat.beq_refl b
 have ha:Nat.beq a a=true:=Nat.beq_refl a
 simp only [opVal,Op.isSelect,cond_false,execOp,envR,lookT,ha,hab,hb,cond_true,eqGuard,binOp]
 simp [Zn4,Zkx,Zgt,Zt7,Op.intBits]
 try rfl
theorem xor_byte (x y:Int):∃ z:UInt8,bits .xor .u8 x y=(z.toNat:Int):=by
 obtain ⟨h0,h1⟩:=bounds_u8 (wf_bits .xor .u8 x y)
 exact ⟨UInt8.ofNat (bits .xor .u8 x y).toNat,by rw [UInt8.toNat_ofNat'];omega⟩

theorem ex_b (k:Nat) (i:Int) (h:i=(k:Int)):(∃ z:Nat,i=(z:Int)) ↔ True:=⟨fun _=>trivial,fun _=>⟨k,h⟩⟩
theorem turned_ok (C:Base) (hF:C.F=G) (l:List ByteArray) (hl:l.length=9) (h32:∀ x ∈ l,x.size=32) (a k y c:Nat) (ha:a < 256) (hk:k < 256) (hy:y < 256) (wild:List ByteArray) {l2:List Code} {Q:Exit->Act->World->Prop}
  (hQ:∀ (m:List ByteArray) a' w',m.length=9->(∀ x ∈ m,x.size=32)->Zah C shM [pRow encS wild,pU (c:Int),pRow encS l,pRow encS m] a' w'->wpL Tryz.prog l2 Q a' w') :
  ∀ a' w',Zah C shL [pU (a:Int),pU (k:Int),pU (y:Int),pRow encS wild,pU (c:Int),pRow encS l] a' w'->wpL Tryz.prog ((flA.drop 11).take 5++l2) Q a' w':=by
 intro a' w' hx
 obtain ⟨n,hn⟩:∃ n:Nat,n=a % 9:=⟨_,rfl⟩
 obtain ⟨j,hj⟩:∃ j:Nat,j=k % 32:=⟨_,rfl⟩
 have hn9:n < l.length:=by omega
 have w1:IntKind.i64.wrap (a:Int)=(a:Int):=wrapI _ (by omega) (by omega)
 have w2:IntKind.i64.wrap (k:Int)=(k:Int):=wrapI _ (by omega) (by omega)
 have t1:(a:Int).tmod 9=(n:Int):=by rw [Int.tmod_eq_emod_of_nonneg (by omega)];omega
 have t2:(k:Int).tmod 32=(j:Int):=by rw [Int.tmod_eq_emod_of_nonneg (by omega)];omega
 have rl:=Zaf encS l
 rw [hl] at rl
 have rc:=Zu0 encS l
 have cl:=Zqe encS l 1 rfl (by omega)
 have c0:=cellS l n hn9
 have ix:=Zaq encS l n 1 1 .i64 rfl hn9 (by decide)
 have hs:l[n].size=32:=h32 _ (List.getElem_mem hn9)
 have ro:ropPV .ofStr [pS l[n]]=some (pBy (lst l[n])):=Znt _
 have hb:(lst l[n]).length=32:=by rw [Zp8,hs]
 have rb:=r_len (lst l[n])
 rw [hb] at rb
 have cy:=bip.cellY (lst l[n]) j (by omega)
 have iy:=bip.idxP_by (lst l[n]) j 1 .i64 (by omega) (by omega)
 obtain ⟨z,hz⟩:=xor_byte ((lst l[n])[j].toNat:Int) (y:Int)
 have ox:=op_xor ((lst l[n])[j].toNat:Int) (y:Int) 5 5 82 83 rfl
 rw [hz] at ox
 have ru:=bip.r_updY (lst l[n]) j .i64 z _ rfl (by omega)
 have rb2:=r_len ((lst l[n]).set j z)
 rw [List.length_set,hb] at rb2
 have rt:ropPV .toStr [pBy ((lst l[n]).set j z)]=some (pS (ofL ((lst l[n]).set j z))):=Zrg _
 have hz32:(ofL ((lst l[n]).set j z)).size=32:=by rw [Zp6,List.length_set,hb]
 have rs:ropPV (.upd 1 0) [pRow encS l,pI (n:Int),pS (ofL ((lst l[n]).set j z))]=some (pRow encS (l.set n (ofL ((lst l[n]).set j z)))):=Zw8 encS l n .i64 _ hn9
 have hm:(l.set n (ofL ((lst l[n]).set j z))).length=9:=by rw [List.length_set,hl]
 have hm32:∀ x ∈ l.set n (ofL ((lst l[n]).set j z)),x.size=32:=fun x hx=>by
  rcases List.mem_or_eq_of_mem_set hx with h | rfl
  ·exact h32 x h
  ·exact hz32
 have rm:=Zaf encS (l.set n (ofL ((lst l[n]).set j z)))
 rw [hm] at rm
 clear hz
 generalize l.set n (ofL ((lst l[n]).set j z))=m at *
 generalize ofL ((lst l[n]).set j z)=s1 at *
 generalize (lst l[n]).set j z=s2 at *
 generalize (lst l[n])[j].toNat=s3 at *
 generalize lst l[n]=s4 at *
 generalize l[n]=s5 at *
 generalize z.toNat=s6 at *
 have hn9':n < 9:=by omega
 have hj32:j < 32:=by omega
 refine seg_okZ Zad Zac Znx mk2 hx ?_ (fun qs a1 wd hq hx=>?_)
 ·simp [-Zae,Zab,Zaa,Base.ev,SX.ev,evs,Value.oneCell',binPV,Zdn,Ze8,PV.plain,Za6,w1,w2,t1,t2,rl,rc,cl,c0,ix,hs,ro,rb,cy,iy,ox,ru,rb2,rt,rs,rm,show lenPV (.row 0 [])=some (pI 0) from rfl,itk.ex_k 9 9 rfl,ex_b 9 9 rfl,ex_b 32 32 rfl,ex_b 0 0 rfl]
  all_goals omega
 ·simp [evs,SX.ev,binPV,Zdn,Ze8,PV.plain,w1,w2,t1,t2,rl,rc,c0,ro,rb,cy,ox,ru,rt,rs] at hq
  subst hq
  exact hQ m _ _ hm hm32 hx
theorem put_none:putI s00=[]:=Zvc fun h=>by have:=h.fl;simp [s00] at this
set_option maxHeartbeats 4000000 in
theorem told (k0:Nat):ToldF 7 (ELaw k0) (spec RL):=by
 refine Zek G _ (Zar Tryz.prog 7) Tryz.func7 (by kernel_rfl) sh0 (by kernel_rfl) ?_ ?_
 ·intro ps qs h
  obtain ⟨p,a,k,y,l,c,_,_,_,_,_,_,_,_,rfl,rfl⟩:=Zaj h
  exact Zbd rfl
 ·intro C ps qs hF h x w hsh
  obtain ⟨p,a,k,y,wild,c,hp,hz,ha,hk,hy,hw,hws,hc,rfl,rfl⟩:=Zaj h
  show wpL Tryz.prog flA _ x w
  have fin:∀ qs a1 w1,qs=[pB true]->Zah C shE qs a1 w1->(AX.ret=.normal->wpL Tryz.prog [] (fun e a' w'=>(e=.normal \/ e=.ret)/\∃ sh' ps' es,Zah C sh' ps' a' w'/\resTo Tryz.prog Tryz.f7 sh' (ELaw k0)=some es/\evs (fun i=>ps'[i]?) G es=some [pB true]) a1 w1)/\(AX.ret ≠ .normal->(AX.ret.to=.normal \/ AX.ret.to=.ret)/\∃ sh' ps' es,Zah C sh' ps' a1 w1/\resTo Tryz.prog Tryz.f7 sh' (ELaw k0)=some es/\evs (fun i=>ps'[i]?) G es=some [pB true]):=by
   rintro qs a1 w1 rfl h1
   exact ⟨nofun,fun _=>⟨.inr rfl,shE,_,[SX.var 0],h1,by kernel_rfl,rfl⟩⟩
  by_cases hp1:60 < p.length
  ·rw [<- List.append_nil flA]
   refine Zag Zad Zac Znx q1 hsh ?_ (fun qs a1 w1 hq h1=>fin qs a1 w1 (by simp [evs,SX.ev] at hq;exact hq.symm) h1)
   simp [-Zae,Zab,Zaa,Base.ev,SX.ev,evs,Value.oneCell',hF,Zaf,binPV,G7,u7]
   all_goals omega
  by_cases hp3:12 < wild.length
  ·rw [<- List.append_nil flA]
   refine Zag Zad Zac Znx q2 hsh ?_ (fun qs a1 w1 hq h1=>fin qs a1 w1 (by simp [evs,SX.ev] at hq;exact hq.symm) h1)
   simp [-Zae,Zab,Zaa,Base.ev,SX.ev,evs,Value.oneCell',hF,Zaf,binPV,G7,u7]
   all_goals omega
  rw [cutA]
  refine Zag Zad Zac Znx pre hsh ?_ (fun qs a1 w1 hq hx=>⟨fun _=>?_,fun h=>absurd rfl h⟩)
  ·simp [-Zae,Zab,Zaa,Base.ev,SX.ev,evs,Value.oneCell',hF,Zaf,binPV,G7,u7]
   all_goals omega
  simp [evs,SX.ev] at hq
  subst hq
  refine Zau (fun z a' w=>∃ i:Nat,z=wild.length - i/\i<=wild.length/\(∀ j (h:j < wild.length),j < i->wild[j].size<=40)/\Zah C shA [pRow encU p,pU (a:Int),pU (k:Int),pU (y:Int),pRow encS wild,pU (c:Int),pI (i:Int)] a' w) ?_ (n:=wild.length) ⟨0,by omega,by omega,fun _ _ h=>absurd h (by omega),hx⟩
  clear hx
  rintro z a' w ⟨i,rfl,hi,hup,hx⟩
  rw [<- List.append_nil (flat _)]
  by_cases hlt:i < wild.length
  ·have v4:IntKind.i64.wrap ((i:Int)+1)=(i:Int)+1:=wrapI _ (by omega) (by omega)
   have c0:=cellS wild i hlt
   have ix:=Zaq encS wild i 1 1 .i64 rfl hlt (by decide)
   by_cases h40:40 < wild[i].size
   ·have h40':(40:Int) < (wild[i].size:Int):=by omega
    generalize wild[i]=y0 at *
    refine Zag Zad Zac Znx ae hx ?_ (fun qs a1 w1 hq h1=>⟨nofun,fun _=>.inr (.inr ⟨rfl,?_⟩)⟩)
    ·simp [-Zae,Zab,Zaa,Base.ev,SX.ev,evs,Value.oneCell',binPV,Za6,Zaf,v4,c0,ix,hlt,h40]
     all_goals omega
    ·obtain ⟨_,g⟩:=fin qs a1 w1 (by simp [evs,SX.ev] at hq;exact hq.symm) h1
     exact g (fun h=>by cases h)
   ·have hup2:∀ j (h:j < wild.length),j < i+1->wild[j].size<=40:=fun j h hji=>by
     rcases Nat.lt_or_ge j i with h1 | h1
     ·exact hup j h h1
     ·obtain rfl:j=i:=by omega
      omega
    have h40':¬ (40:Int) < (wild[i].size:Int):=by omega
    generalize wild[i]=y0 at *
    refine Zag Zad Zac Znx ao hx ?_ (fun qs a1 w1 hq hx=>⟨fun _=>.inl ⟨rfl,wild.length - (i+1),by omega,i+1,rfl,by omega,hup2,?_⟩,fun h=>absurd rfl h⟩)
    ·simp [-Zae,Zab,Zaa,Base.ev,SX.ev,evs,Value.oneCell',binPV,Za6,Zaf,v4,c0,ix,hlt,h40]
     all_goals omega
    ·simp [evs,SX.ev,binPV,v4] at hq
     subst hq
     exact hx
  ·obtain rfl:i=wild.length:=by omega
   refine Zag Zad Zac Znx ax hx ?_ (fun qs a1 wd hq hx=>⟨nofun,fun _=>.inr (.inl ⟨rfl,?_⟩)⟩)
   ·simp [-Zae,Zab,Zaa,Base.ev,SX.ev,evs,Value.oneCell',binPV,Zaf]
   simp [evs,SX.ev] at hq
   subst hq
   obtain ⟨s,n2,hm,e24⟩:=made30 (p:=p) (by omega) hz
   have e24:G 24 [pI 30,pRow encU p,pI 0]=some [pRow encF s.files,pRow encM s.marks,pI s.epoch,pRow encU p,pI (n2:Int)]:=e24
   have g1:=ilx.put_eq hm G 1 rfl
   have g9:=ilx.put_eq hm G 9 rfl
   have hl:(putI s).length=9:=Ze7 hm
   have h32:=putI_size (s:=s)
   have g8:G 8 [pRow encS (putI s),pRow encS (putI s)]=some [pB true]:=Zal fSq ⟨putI s,putI s,by omega,by omega,rfl,by rw [Zls rfl]⟩
   have rl:=Zaf encS (putI s)
   rw [hl] at rl
   generalize putI s=l at *
   refine Zag Zad Zac Znx mk1 hx ?_ (fun qs a1 wd hq hx=>⟨fun _=>?_,fun h=>absurd rfl h⟩)
   ·simp [-Zae,Zab,Zaa,Base.ev,SX.ev,evs,Value.oneCell',hF,e24,g1,g9,g8,rl,binPV,u1,u8,u9,u24]
    all_goals omega
   simp [evs,SX.ev,hF,e24,g1] at hq
   subst hq
   refine turned_ok C hF l hl h32 a k y c ha hk hy wild (fun m a1 w1 hml hm32 hx=>?_) _ _ hx
   have b1:=both l (by omega) (fun x hx=>by rw [h32 x hx];omega)
   have b2:=both m (by omega) (fun x hx=>by rw [hm32 x hx];omega)
   have b3:=both wild (by omega) (fun x hx=>by
    obtain ⟨j,hj,rfl⟩:=List.getElem_of_mem hx
    have:=hup j hj hj
    omega)
   obtain ⟨c3,hc3⟩:∃ c3:Nat,c3=c % 3:=⟨_,rfl⟩
   obtain ⟨q,hq0⟩:∃ q:Nat,q=9 - c3:=⟨_,rfl⟩
   have b4:=both (l.take q) (by rw [List.length_take];omega) (fun x hx=>by rw [h32 x (List.mem_of_mem_take hx)];omega)
   have t3:(c:Int).tmod 3=(c3:Int):=by rw [Int.tmod_eq_emod_of_nonneg (by omega)];omega
   have wu3:IntKind.u8.wrap (c3:Int)=(c3:Int):=by rw [IntKind.wrap_u8];omega
   have w3:IntKind.i64.wrap (c3:Int)=(c3:Int):=wrapI _ (by omega) (by omega)
   have m3:ropPV .min2 [pI 9,pI (c3:Int)]=some (pI (c3:Int)):=by simp only [ropPV,Option.some.injEq,PV.v.injEq,Value.int.injEq,true_and];omega
   have w4:IntKind.i64.wrap (9 - (c3:Int))=(q:Int):=by rw [wrapI _ (by omega) (by omega)];omega
   have m0:ropPV .min2 [pI 0,pI 0]=some (pI 0):=rfl
   have st:subPV (pRow encS l) (pI 0) (pI (q:Int)) 1=some (pRow encS (l.take q)):=sub_takeE encS l q (by omega)
   have g3:G 3 [pRow encS l,pRow encS m]=some [pRow encQ (diffI l m)]:=Zal fDfI ⟨l,m,by omega,by omega,rfl,by rw [difI,if_pos (by omega)]⟩
   have g11:G 11 [pRow encS l,pRow encS m]=some [pRow encQ (diffI l m)]:=Zal fDf7 ⟨l,m,by omega,by omega,rfl,rfl⟩
   have hdl:(diffI l m).length<=1000000:=by
    have:=Ztr l m 0
    unfold diffI
    omega
   have g12:G 12 [pRow encQ (diffI l m),pRow encQ (diffI l m)]=some [pB true]:=Zal fSPq ⟨diffI l m,hdl,rfl,rfl⟩
   have g0:G 1 [.row 0 [],.row 0 [],pI 0]=some [.row 0 []]:=Zal fPuI ⟨s00,⟨by simp [s00],by simp [s00],fun f hf=>by simp [s00] at hf⟩,rfl,by rw [put_none];rfl⟩
   have r0:lenPV (.row 0 [])=some (pI 0):=rfl
   generalize diffI l m=d at *
   obtain ⟨x1,y1,e1,k1,a1x,a1y,a1z,a1n⟩:=b1
   obtain ⟨x2,y2,e2,k2,a2x,a2y,a2z,a2n⟩:=b2
   obtain ⟨x3,y3,e3,k3,a3x,a3y,a3z,a3n⟩:=b3
   obtain ⟨x4,y4,e4,k4,a4x,a4y,a4z,a4n⟩:=b4
   generalize pRow encS (l.take q)=r4 at *
   generalize pRow encS wild=r3 at *
   generalize pRow encS m=r2 at *
   generalize pRow encS l=r1 at *
   generalize pRow encQ d=rd at *
   have h1:evs (fun i=>[r3,pU (c:Int),r1,r2][i]?) G z1=some [x1,y1,pI e1,x1,y1,pI e1]:=by simp [z1,evs,SX.ev,a1x,a1y]
   have h2:evs (fun i=>[r3,pU (c:Int),r1,r2][i]?) G z2=some [x2,y2,pI e2,x2,y2,pI e2]:=by simp [z2,evs,SX.ev,a2x,a2y]
   have h3:evs (fun i=>[r3,pU (c:Int),r1,r2][i]?) G z3=some [x3,y3,pI e3,x3,y3,pI e3]:=by simp [z3,evs,SX.ev,a3x,a3y]
   have h4:evs (fun i=>[r3,pU (c:Int),r1,r2][i]?) G z4=some [x4,y4,pI e4,x4,y4,pI e4]:=by simp [z4,evs,SX.ev,binPV,Zdn,rl,t3,wu3,w3,m3,w4,m0,st,a4x,a4y]
   have h5:evs (fun i=>[r3,pU (c:Int),r1,r2][i]?) G z5=some [rd,rd]:=by simp [z5,evs,SX.ev,g3,g11]
   rw [<- List.append_nil (flA.drop 16)]
   refine Zag Zad Zac Znx en hx ?_ (fun qs a1 w1 hq h1=>fin qs a1 w1 (by simp [evs,SX.ev] at hq;exact hq.symm) h1)
   simp [-Zae,Zab,Zaa,Base.ev,SX.ev,evs,Value.oneCell',hF,binPV,Zdn,rl,t3,wu3,w3,m3,w4,m0,st,a1x,a1y,a1z,a1n,a2x,a2y,a2z,a2n,a3x,a3y,a3z,a3n,a4x,a4y,a4z,a4n,h1,h2,h3,h4,h5,g3,g11,g12,g0,r0,itk.ex_k 9 9 rfl,u1,u2,u3,u5,u10,u11,u12]
   all_goals omega
theorem walk (w:World) (v:Value) (len:Nat) (Z:Nat->Int) (hg:IsRow .u8 w v len Z) (a:Int) (wa:(Lit.int .u8 a).wf=true) (k:Int) (wk:(Lit.int .u8 k).wf=true) (y:Int) (wy:(Lit.int .u8 y).wf=true) (v4:Value) (xs:List (List Value)) (hx:Zvx [.str] w v4 xs) (c:Int) (wc:(Lit.int .u8 c).wf=true) :
  Calls Tryz.prog 7 #[v,.int .u8 a,.int .u8 k,.int .u8 y,v4,.int .u8 c] w fun e w'=>e=.returned (.bool true)/\Ex w w':=by
 obtain ⟨p,hbp,hlen,hr⟩:=rowU hg
 obtain ⟨a0,a1⟩:=bounds_u8 wa
 obtain ⟨k0,k1⟩:=bounds_u8 wk
 obtain ⟨y0,y1⟩:=bounds_u8 wy
 obtain ⟨c0,c1⟩:=bounds_u8 wc
 obtain ⟨a,rfl⟩:∃ n:Nat,a=(n:Int):=⟨a.toNat,by omega⟩
 obtain ⟨k,rfl⟩:∃ n:Nat,k=(n:Int):=⟨k.toNat,by omega⟩
 obtain ⟨y,rfl⟩:∃ n:Nat,y=(n:Int):=⟨y.toNat,by omega⟩
 obtain ⟨c,rfl⟩:∃ n:Nat,c=(n:Int):=⟨c.toNat,by omega⟩
 have hxl:xs.length<=9223372036854775807:=by
  obtain ⟨_,_,cap,_,h2,h3,_⟩:=hx
  exact Nat.le_trans h2 (Zlv h3)
 obtain ⟨l,hll,hls,hrl⟩:=strs_of hx
 refine told_true (told 0) rfl (us:=[v,.int .u8 (a:Int),.int .u8 (k:Int),.int .u8 (y:Int),v4,.int .u8 (c:Int)]) (ps:=[pRow encU p,pU (a:Int),pU (k:Int),pU (y:Int),pRow encS l,pU (c:Int)]) (Zal fL ⟨p,a,k,y,l,c,hlen,hbp,by omega,by omega,by omega,by omega,hls,by omega,rfl,rfl⟩) rfl rfl (fun i p u hp hu=>?_)
 match i,hp,hu with
 | 0,hp,hu=>simp at hp hu;subst hp;subst hu;exact hr
 | 1,hp,hu=>simp at hp hu;subst hp;subst hu;exact Zp4 rfl
 | 2,hp,hu=>simp at hp hu;subst hp;subst hu;exact Zp4 rfl
 | 3,hp,hu=>simp at hp hu;subst hp;subst hu;exact Zp4 rfl
 | 4,hp,hu=>simp at hp hu;subst hp;subst hu;exact hrl
 | 5,hp,hu=>simp at hp hu;subst hp;subst hu;exact Zp4 rfl
 | i+6,hp,hu=>simp at hp

end Go.Proofs.YtefkakjegdjojaaGreat.imageAll
