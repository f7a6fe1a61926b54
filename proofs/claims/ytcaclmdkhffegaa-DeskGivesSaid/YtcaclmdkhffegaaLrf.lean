/- The document's RunDesk, told: who is called, and the whole. -/
import Derived.Test.YtcaclmdkhffegaaDkf
import Derived.Test.YtcaclmdkhffegaaDix
import Derived.Test.YtcaclmdkhffegaaEng31
namespace Go.Proofs.Ytcaclmdkhffegaa.lrf
open Go Go.RowKit eng SX Fact fil lem lea ldk dix
open ldp (EPqr Zmd RPq fPq lenL)
open lcq (ECq Zp0 RCq fCq Zb1)
open lec (encN lenN)
open lrd (flR dbox zbox hR loopQ InR loop1 DL)
set_option linter.unusedVariables false
set_option linter.unusedSimpArgs false
set_option maxRecDepth 1000000
def hC (_:FuncId) (o:Oper):Option Hint:=match o.op with | .call { callee:=.builtin .append,.. }=>some .own | .unOp .not ..=>some .parts | .binOp .eql ..=>some .parts | .pick ..=>some .parts | _=>none
noncomputable def lpS:=flat (Zah (nth flR 7))
noncomputable def bkS:=flat (Zbg (nth lpS 2))
noncomputable def lpK:=flat (Zah (nth bkS 3))
noncomputable def bkK:=flat (Zbg (nth lpK 2))
noncomputable def lpN:=flat (Zah (nth bkK 3))
def wbox:BoxT:=⟨25,0,false,[.leaf,.leaf,.leaf,.leaf],none,false⟩
def pbox:BoxT:=⟨41,0,false,[.leaf,.leaf],none,false⟩
def bpair (k:Nat):BoxT:=⟨41,2,true,[],some k,false⟩
def shSN:Shape:=⟨[(1,.leaf),(2,.ptr 0 0 0 0),(4,.ptr 1 0 0 0),(7,.leaf),(10,.nil),(11,.leaf)],[dbox,zbox],[none,some true,none,some true,some true],107,15⟩
def shSO:Shape:=⟨[(1,.leaf),(2,.ptr 0 0 0 0),(4,.ptr 1 0 0 0),(7,.leaf),(10,.own 2 5 2),(11,.leaf)],[dbox,zbox,bpair 5],[none,some true,none,some true,some true],107,15⟩
def shKN:Shape:=⟨[(1,.leaf),(2,.ptr 0 0 0 0),(4,.ptr 1 0 0 0),(7,.leaf),(10,.nil),(11,.leaf),(12,.ptr 2 0 0 0),(13,.leaf),(14,.leaf)],[dbox,zbox,wbox],[none,some true,none,some false,none,some true,some true,none,none,none,none],107,15⟩
def shKO:Shape:=⟨[(1,.leaf),(2,.ptr 0 0 0 0),(4,.ptr 1 0 0 0),(7,.leaf),(10,.own 3 11 2),(11,.leaf),(12,.ptr 2 0 0 0),(13,.leaf),(14,.leaf)],[dbox,zbox,wbox,bpair 11],[none,some true,none,some false,none,some true,some true,none,none,none,none],107,15⟩
def shNN:Shape:=⟨[(1,.leaf),(2,.ptr 0 0 0 0),(4,.ptr 1 0 0 0),(7,.leaf),(10,.nil),(11,.leaf),(12,.ptr 2 0 0 0),(13,.leaf),(14,.leaf),(15,.ptr 3 0 0 0),(16,.leaf),(17,.leaf)],[dbox,zbox,wbox,pbox],[none,some true,none,some false,none,none,none,some true,some true,none,none,none,none,none,none],107,15⟩
def shNO:Shape:=⟨[(1,.leaf),(2,.ptr 0 0 0 0),(4,.ptr 1 0 0 0),(7,.leaf),(10,.own 4 15 2),(11,.leaf),(12,.ptr 2 0 0 0),(13,.leaf),(14,.leaf),(15,.ptr 3 0 0 0),(16,.leaf),(17,.leaf)],[dbox,zbox,wbox,pbox,bpair 15],[none,some true,none,some false,none,none,none,some true,some true,none,none,none,none,none,none],107,15⟩
def shEN:Shape:=⟨[(4,.ptr 0 0 0 0),(5,.leaf),(6,.nil)],[dbox],[some true,some true,some true],107,15⟩
def shEO:Shape:=⟨[(4,.ptr 0 0 0 0),(5,.leaf),(6,.own 1 3 2)],[dbox,bpair 3],[some true,some true,some true],107,15⟩
@[simp] def zLrf1:SX:=rop ROp.allB [rop ROp.eqI [.cell (.var 15) (.var 6) 2 0,.var 13],rop ROp.eqI [.cell (.var 15) (.var 6) 2 1,.var 14]]
@[simp] def zLrf2:List SX:=[.var 3,.var 0,.cell (.var 4) (.var 2) 4 0,.cell (.var 4) (.var 2) 4 2,.cell (.var 4) (.var 2) 4 3]
@[simp] def zLrf3:SX:=.bin .add (.var 6) (.con (.int .i64 1))
@[simp] def zLrf4:SX:=.bin .lss (.var 6) (.len (.var 15))
@[simp] def zLrf5:SX:=.bin .lss (.var 4) (.len (.var 3))
@[simp] def zLrf6:SX:=.bin .lss (.var 2) (.len (.var 4))
@[simp] def zLrf7:SX:=.con (.int .i64 0)
@[simp] def zLrf8:SX:=.bin .add (.var 2) (.con (.int .i64 1))
@[simp] def zLrf9:Fact:=.ok (.var 0)
@[simp] def Zk6:Fact:=same (.len (.var 15)) (.len (.var 15))
@[simp] def Zk5:SX:=.lit 1 [.var 13,.var 14]
@[simp] def zLrf12:List SX:=[.var 0,.var 1,.var 2,.var 3,.var 4,.con (.bool true),zLrf3,.var 7,.var 8,.var 9,.var 10,.var 11,.var 12,.var 13,.var 14,.var 15]
@[simp] def Zcf:Fact:=.ok (.var 2)
@[simp] def Zm5:Fact:=same (.len (.var 5)) (.len (.var 5))
@[simp] def Zk4:SX:=.cell (.var 3) (.var 4) 1 0
@[simp] def Zk3:SX:=.cell (.var 4) (.var 2) 4 0
@[simp] def Zk2:SX:=.cell (.var 4) (.var 2) 4 1
@[simp] def Zk1:SX:=.cell (.var 4) (.var 2) 4 2
@[simp] def Zk0:SX:=.cell (.var 4) (.var 2) 4 3
@[simp] def Zoj:Fact:=same (.len (.var 11)) (.len (.var 11))
@[simp] def Zds:Fact:=.ok (.var 9)
@[simp] def Zeu:Fact:=.ok (.var 10)
@[simp] def Zoi:SX:=rop ROp.cat [.var 15,Zk5]
@[simp] def Zff:Fact:=.ok (.var 4)
@[simp] def Zqf:SX:=.bin .add (.var 4) (.con (.int .i64 1))
@[simp] def Zoh:Fact:=.is (.var 5) (.bool false)
@[simp] def Zkz:SX:=.con (.bool false)
@[simp] def Zog:Fact:=.idx (.var 3) (.var 4) 1 1
@[simp] def Zof:Fact:=.idx (.var 4) (.var 2) 4 4
@[simp] def Ziq:Fact:=.ok (.var 11)
@[simp] def Zip:Fact:=.ok (.var 12)
theorem midA:segTo Try.prog (orcFn tabA) 10000 ((flR.drop 5).take 2) lrd.shA [] shSN [(0,0),(1,0)] hC=some (.normal,[zLrf9,.ok zLrf7],[.var 0,.lit 0 [],zLrf7,.var 2,.var 3]):=by kernel_rfl
theorem midB:segZ Try.prog (orcFn tabA) 10000 ((flR.drop 5).take 2) lrd.shB [] [7] shSN [(0,0),(1,0)] hC=some ([zLrf9,.ok zLrf7],[.var 0,.var 4,zLrf7,.var 2,.var 3]):=by kernel_rfl
theorem nxN:segTo Try.prog (orcFn tabA) 10000 lpN shNN [0] shNN [(0,0),(1,0),(2,0),(3,0)] hC=some (.exit 6,[.ok (.bin .lss (.var 6) zLrf7),.is (.bin .lss (.var 6) zLrf7) (.bool false),zLrf9,Zcf,Zff,.ok (.var 5),.ok (.var 6),Zds,Zeu,Ziq,Zip,.ok (.var 13),.ok (.var 14)],[.var 0,.var 1,.var 2,.var 3,.var 4,.var 5,.var 6,.var 7,.var 8,.var 9,.var 10,.var 11,.var 12,.var 13,.var 14]):=by kernel_rfl
theorem nxO:segTo Try.prog (orcFn tabA) 10000 lpN shNO [0] shNO [(0,0),(1,0),(2,0),(3,0),(4,0)] hC=some (.exit 6,[.ok zLrf4,.is zLrf4 (.bool false),zLrf9,Zcf,Zff,.ok (.var 5),.ok (.var 6),Zds,Zeu,Ziq,Zip,.ok (.var 13),.ok (.var 14),Zk6],[.var 0,.var 1,.var 2,.var 3,.var 4,.var 5,.var 6,.var 7,.var 8,.var 9,.var 10,.var 11,.var 12,.var 13,.var 14,.var 15]):=by kernel_rfl
theorem nO1:segTo Try.prog (orcFn tabA) 10000 lpN shNO [1,1] shNO [(0,0),(1,0),(2,0),(3,0),(4,0)] hC=some (.normal,[.ok zLrf4,.is zLrf4 (.bool true),.is (.var 5) (.bool true),.ok zLrf3,zLrf9,Zcf,Zff,.ok (.con (.bool true)),.ok zLrf3,Zds,Zeu,Ziq,Zip,.ok (.var 13),.ok (.var 14),Zk6],zLrf12):=by kernel_rfl
theorem nO0:segTo Try.prog (orcFn tabA) 10000 lpN shNO [1,0,0] shNO [(0,0),(1,0),(2,0),(3,0),(4,0)] hC=some (.normal,[.ok zLrf4,.is zLrf4 (.bool true),Zoh,rng (.var 6) (.len (.var 15)),.idx (.var 15) (.var 6) 2 2,.ok zLrf1,.is zLrf1 (.bool false),.ok zLrf3,zLrf9,Zcf,Zff,.ok Zkz,.ok zLrf3,Zds,Zeu,Ziq,Zip,.ok (.var 13),.ok (.var 14),Zk6],[.var 0,.var 1,.var 2,.var 3,.var 4,Zkz,zLrf3,.var 7,.var 8,.var 9,.var 10,.var 11,.var 12,.var 13,.var 14,.var 15]):=by kernel_rfl
theorem nOt:segTo Try.prog (orcFn tabA) 10000 lpN shNO [1,0,1] shNO [(0,0),(1,0),(2,0),(3,0),(4,0)] hC=some (.normal,[.ok zLrf4,.is zLrf4 (.bool true),Zoh,rng (.var 6) (.len (.var 15)),.idx (.var 15) (.var 6) 2 2,.ok zLrf1,.is zLrf1 (.bool true),.ok zLrf3,zLrf9,Zcf,Zff,.ok (.con (.bool true)),.ok zLrf3,Zds,Zeu,Ziq,Zip,.ok (.var 13),.ok (.var 14),Zk6],zLrf12):=by kernel_rfl
theorem khN:segTo Try.prog (orcFn tabA) 10000 (lpK.take 2) shKN [1] shKN [(0,0),(1,0),(2,0)] hC=some (.normal,[.ok (.len (.var 3)),.ok zLrf5,.is zLrf5 (.bool true),zLrf9,Zcf,Zff,.ok (.var 7),.ok (.var 8),Zds,Zeu],[.var 0,.var 1,.var 2,.var 3,.var 4,.var 5,.var 6,.var 7,.var 8,.var 9,.var 10]):=by kernel_rfl
theorem khO:segTo Try.prog (orcFn tabA) 10000 (lpK.take 2) shKO [1] shKO [(0,0),(1,0),(2,0),(3,0)] hC=some (.normal,[.ok (.len (.var 3)),.ok zLrf5,.is zLrf5 (.bool true),zLrf9,Zcf,Zff,.ok (.var 7),.ok (.var 8),Zds,Zeu,Zoj],[.var 0,.var 1,.var 2,.var 3,.var 4,.var 5,.var 6,.var 7,.var 8,.var 9,.var 10,.var 11]):=by kernel_rfl
theorem kxN:segTo Try.prog (orcFn tabA) 10000 lpK shKN [0] shSN [(0,0),(1,0)] hC=some (.exit 4,[.ok (.len (.var 3)),.ok zLrf5,.is zLrf5 (.bool false),zLrf9,Zcf],[.var 0,.var 1,.var 2,.var 5,.var 6]):=by kernel_rfl
theorem kxO:segTo Try.prog (orcFn tabA) 10000 lpK shKO [0] shSO [(0,0),(1,0),(3,0)] hC=some (.exit 4,[.ok (.len (.var 3)),.ok zLrf5,.is zLrf5 (.bool false),zLrf9,Zcf,Zoj],[.var 0,.var 1,.var 2,.var 5,.var 6,.var 11]):=by kernel_rfl
theorem kbN:segTo Try.prog (orcFn tabA) 10000 (bkK.take 3) shKN [] shNN [(0,0),(1,0),(2,0),(7,0)] hC=some (.normal,[Zog,Zog,.ok Zk4,zLrf9,Zcf,Zff,.ok Zkz,.ok zLrf7,.ok (.var 7),.ok (.var 8),Zds,Zeu,Zds,.ok Zk4],[.var 0,.var 1,.var 2,.var 3,.var 4,Zkz,zLrf7,.var 5,.var 6,.var 7,.var 8,.var 9,.var 10,.var 9,Zk4]):=by kernel_rfl
theorem kbO:segTo Try.prog (orcFn tabA) 10000 (bkK.take 3) shKO [] shNO [(0,0),(1,0),(2,0),(8,0),(3,0)] hC=some (.normal,[Zog,Zog,.ok Zk4,zLrf9,Zcf,Zff,.ok Zkz,.ok zLrf7,.ok (.var 7),.ok (.var 8),Zds,Zeu,Zds,.ok Zk4,Zoj],[.var 0,.var 1,.var 2,.var 3,.var 4,Zkz,zLrf7,.var 5,.var 6,.var 7,.var 8,.var 9,.var 10,.var 9,Zk4,.var 11]):=by kernel_rfl
theorem kpN:segTo Try.prog (orcFn tabA) 10000 (bkK.drop 4) shNN [0] shKO [(0,0),(1,0),(2,0),(9,0)] hC=some (.normal,[Zoh,rng zLrf7 (.len Zk5),upto (.len Zk5) 4294967296,zLrf9,Zcf,Zff,Zds,Zeu,Ziq,Zip,same (.len Zk5) (.len Zk5)],[.var 0,.var 1,.var 2,.var 3,.var 4,.var 7,.var 8,.var 9,.var 10,.var 11,.var 12,Zk5]):=by kernel_rfl
theorem kpO:segTo Try.prog (orcFn tabA) 10000 (bkK.drop 4) shNO [0] shKO [(0,0),(1,0),(2,0),(4,1)] hC=some (.normal,[Zoh,Zk6,upto (.len Zoi) 4294967296,zLrf9,Zcf,Zff,Zds,Zeu,Ziq,Zip,same (.len Zoi) (.len Zoi)],[.var 0,.var 1,.var 2,.var 3,.var 4,.var 7,.var 8,.var 9,.var 10,.var 11,.var 12,Zoi]):=by kernel_rfl
theorem kpT:segTo Try.prog (orcFn tabA) 10000 (bkK.drop 4) shNO [1] shKO [(0,0),(1,0),(2,0),(4,0)] hC=some (.normal,[.is (.var 5) (.bool true),zLrf9,Zcf,Zff,Zds,Zeu,Ziq,Zip,Zk6],[.var 0,.var 1,.var 2,.var 3,.var 4,.var 7,.var 8,.var 9,.var 10,.var 11,.var 12,.var 15]):=by kernel_rfl
theorem kst:segTo Try.prog (orcFn tabA) 10000 (lpK.drop 3) shKO [] shKO [(0,0),(1,0),(2,0),(3,0)] hC=some (.normal,[.ok Zqf,zLrf9,Zcf,.ok Zqf,.ok (.var 7),.ok (.var 8),Zds,Zeu,Zoj],[.var 0,.var 1,.var 2,.var 3,Zqf,.var 5,.var 6,.var 7,.var 8,.var 9,.var 10,.var 11]):=by kernel_rfl
theorem hsN:segTo Try.prog (orcFn tabA) 10000 (lpS.take 2) shSN [1] shSN [(0,0),(1,0)] hC=some (.normal,[.ok (.len (.var 4)),.ok zLrf6,.is zLrf6 (.bool true),zLrf9,Zcf],[.var 0,.var 1,.var 2,.var 3,.var 4]):=by kernel_rfl
theorem hsO:segTo Try.prog (orcFn tabA) 10000 (lpS.take 2) shSO [1] shSO [(0,0),(1,0),(2,0)] hC=some (.normal,[.ok (.len (.var 4)),.ok zLrf6,.is zLrf6 (.bool true),zLrf9,Zcf,Zm5],[.var 0,.var 1,.var 2,.var 3,.var 4,.var 5]):=by kernel_rfl
theorem sxN:segTo Try.prog (orcFn tabA) 10000 lpS shSN [0] shSN [(0,0),(1,0)] hC=some (.exit 2,[.ok (.len (.var 4)),.ok zLrf6,.is zLrf6 (.bool false),zLrf9,Zcf],[.var 0,.var 1,.var 2,.var 3,.var 4]):=by kernel_rfl
theorem sxO:segTo Try.prog (orcFn tabA) 10000 lpS shSO [0] shSO [(0,0),(1,0),(2,0)] hC=some (.exit 2,[.ok (.len (.var 4)),.ok zLrf6,.is zLrf6 (.bool false),zLrf9,Zcf,Zm5],[.var 0,.var 1,.var 2,.var 3,.var 4,.var 5]):=by kernel_rfl
theorem sbN:segTo Try.prog (orcFn tabA) 10000 (bkS.take 3) shSN [] shKN [(0,0),(1,0),(5,0)] hC=some (.normal,[Zof,Zof,.ok Zk3,.ok Zk2,.ok Zk1,.ok Zk0,.fn 38 (ECq 3) zLrf2,zLrf9,Zcf,.ok zLrf7,.ok Zk3,.ok Zk2,.ok Zk1,.ok Zk0],[.var 0,.var 1,.var 2,.fn 3 zLrf2 0,zLrf7,.var 3,.var 4,Zk3,Zk2,Zk1,Zk0]):=by kernel_rfl
theorem sbO:segTo Try.prog (orcFn tabA) 10000 (bkS.take 3) shSO [] shKO [(0,0),(1,0),(6,0),(2,0)] hC=some (.normal,[Zof,Zof,.ok Zk3,.ok Zk2,.ok Zk1,.ok Zk0,.fn 38 (ECq 3) zLrf2,zLrf9,Zcf,.ok zLrf7,.ok Zk3,.ok Zk2,.ok Zk1,.ok Zk0,Zm5],[.var 0,.var 1,.var 2,.fn 3 zLrf2 0,zLrf7,.var 3,.var 4,Zk3,Zk2,Zk1,Zk0,.var 5]):=by kernel_rfl
theorem stN:segTo Try.prog (orcFn tabA) 10000 (lpS.drop 3) shSN [] shSN [(0,0),(1,0)] hC=some (.normal,[.ok zLrf8,zLrf9,.ok zLrf8],[.var 0,.var 1,zLrf8,.var 3,.var 4]):=by kernel_rfl
theorem stO:segTo Try.prog (orcFn tabA) 10000 (lpS.drop 3) shSO [] shSO [(0,0),(1,0),(2,0)] hC=some (.normal,[.ok zLrf8,zLrf9,.ok zLrf8,Zm5],[.var 0,.var 1,zLrf8,.var 3,.var 4,.var 5]):=by kernel_rfl
theorem poN:segTo Try.prog (orcFn tabA) 10000 (flR.drop 8) shSN [] shEN [(1,0)] hC=some (.ret,[],[.var 1,.var 3,.var 4]):=by kernel_rfl
theorem poO:segTo Try.prog (orcFn tabA) 10000 (flR.drop 8) shSO [] shEO [(1,0),(2,0)] hC=some (.ret,[Zm5],[.var 1,.var 3,.var 4,.var 5]):=by kernel_rfl
def ERd (k:Nat):FnE:={ k:=k,ins:=[some 2,none],leaks:=[false,true,false],outs:=[some 2,none,none],kinds:=[.row,.row,.row,.row] }
@[simp] theorem kRd (k:Nat):(ERd k).k=k:=rfl
theorem loopQ_len (t:Int):∀ (n:Nat) (d:DL),(loopQ t n d).1.1.length<=d.1.length+n/\(loopQ t n d).1.2.length<=d.2.length/\(loopQ t n d).2.length<=n
 | 0,d=>by simp [loopQ]
 | n+1,d=>by
  unfold loopQ
  split
  ·rename_i w hw
   obtain ⟨h1,h2,h3⟩:=loopQ_len t n (Zcd t d w)
   have hg:=lrd.grantQ_len d.1 (w.1,w.2.2.1,w.2.2.2,t+60)
   have e1:(Zcd t d w).1=lgq.grantQ d.1 (w.1,w.2.2.1,w.2.2.2,t+60):=rfl
   have e2:(Zcd t d w).2.length<=d.2.length:=List.length_filter_le _ _
   simp only [List.length_cons]
   rw [e1] at h1
   omega
  ·simp
def clQ (d:DL) (t:Int) (w:LeM):List Int:=Zb1 d.1 t w.1 w.2.2.1 w.2.2.2 3
def runQ (t:Int) (d:DL):DL × List LeM × List Pr :=
 ((loopQ t d.2.length (leb.pruneL d.1 t,d.2)).1,(loopQ t d.2.length (leb.pruneL d.1 t,d.2)).2,callsF (clQ (loopQ t d.2.length (leb.pruneL d.1 t,d.2)).1 t) (loopQ t d.2.length (leb.pruneL d.1 t,d.2)).1.2 [])
theorem cellN (l:List Int) (i:Nat) (h:i < l.length):Zd3 (pRow encN l) (pI (i:Int)) 1 0=some (pI l[i]):=by
 rw [Zca encN l i .i64 1 0 rfl h,Zdp encN l i 0 _ (List.getElem?_eq_getElem h) (by decide)];rfl
theorem cutR:flR=flR.take 4++.block (Zaf (nth flR 4)) (.loop (Zah (nth flR 4))) :: ((flR.drop 5).take 2++.block (Zaf (nth flR 7)) (.loop (Zah (nth flR 7))) :: flR.drop 8):=by kernel_rfl
theorem cutS:lpS=lpS.take 2++.block (Zaf (nth lpS 2)) (Zbg (nth lpS 2)) :: lpS.drop 3:=by kernel_rfl
theorem cutT:bkS=bkS.take 3++[.block (Zaf (nth bkS 3)) (.loop (Zah (nth bkS 3)))]:=by kernel_rfl
theorem cutK:lpK=lpK.take 2++.block (Zaf (nth lpK 2)) (Zbg (nth lpK 2)) :: lpK.drop 3:=by kernel_rfl
theorem cutL:bkK=bkK.take 3++.block (Zaf (nth bkK 3)) (.loop (Zah (nth bkK 3))) :: bkK.drop 4:=by kernel_rfl
abbrev stS (t:Int) (d:DL) (lt:List LeM) (i:Nat):List PV:=[pI t,pRow encL lt,pI (i:Int),pRow encL d.1,pRow encL d.2]
abbrev stK (t:Int) (d:DL) (lt:List LeM) (i:Nat) (x:LeM) (cl:List Int) (k:Nat):List PV:=[pI t,pRow encL lt,pI (i:Int),pRow encN cl,pI (k:Int),pRow encL d.1,pRow encL d.2,pI x.1,pI x.2.1,pI x.2.2.1,pI x.2.2.2]
abbrev stN' (t:Int) (d:DL) (lt:List LeM) (i:Nat) (x:LeM) (cl:List Int) (k:Nat) (b:Bool) (n:Nat) (p:Pr):List PV:=[pI t,pRow encL lt,pI (i:Int),pRow encN cl,pI (k:Int),pB b,pI (n:Int),pRow encL d.1,pRow encL d.2,pI x.1,pI x.2.1,pI x.2.2.1,pI x.2.2.2,pI p.1,pI p.2]
def InS (C:Base) (t:Int) (d:DL) (lt:List LeM) (i:Nat) (acc:List Pr) (a:Act) (w:World):Prop :=
 (acc=[]/\Zag C shSN (stS t d lt i) a w) \/ Zag C shSO (stS t d lt i++[pRow encP acc]) a w
def InK (C:Base) (t:Int) (d:DL) (lt:List LeM) (i:Nat) (x:LeM) (cl:List Int) (k:Nat) (acc:List Pr) (a:Act) (w:World):Prop :=
 (acc=[]/\Zag C shKN (stK t d lt i x cl k) a w) \/ Zag C shKO (stK t d lt i x cl k++[pRow encP acc]) a w
theorem mem_take {acc:List Pr} {n:Nat} (h:n < acc.length) (p:Pr):decide (p ∈ acc.take (n+1))=(decide (p ∈ acc.take n) || decide (acc[n]=p)):=by
 rw [List.take_add_one,List.getElem?_eq_getElem h]
 simp only [Option.toList_some,List.mem_append,List.mem_singleton,Bool.decide_or]
 congr 1
 exact decide_eq_decide.2 ⟨fun h=>h.symm,fun h=>h.symm⟩
set_option maxHeartbeats 2000000 in
theorem loopN (C:Base) (t:Int) (d:DL) (lt:List LeM) (i:Nat) (x:LeM) (cl:List Int) (k:Nat) (p:Pr) (acc:List Pr) (hL:acc.length<=990000) (Q:Exit->Act->World->Prop) (R:List Code)
  (hQ:∀ a w,Zag C shNO (stN' t d lt i x cl k (decide (p ∈ acc)) acc.length p++[pRow encP acc]) a w->wpL Try.prog R Q a w) {a:Act} {w:World} (hin:Zag C shNO (stN' t d lt i x cl k false 0 p++[pRow encP acc]) a w) :
  wpL Try.prog (.block (Zaf (nth bkK 3)) (.loop (Zah (nth bkK 3))) :: R) Q a w:=by
 refine Zas (fun q a w=>∃ n:Nat,n<=acc.length/\q=acc.length - n/\Zag C shNO (stN' t d lt i x cl k (decide (p ∈ acc.take n)) n p++[pRow encP acc]) a w) ?_
  (n:=acc.length) ⟨0,by omega,by omega,by simpa using hin⟩
 rintro q a w ⟨n,hn,rfl,hin⟩
 show wpL Try.prog lpN _ a w
 rw [<- List.append_nil lpN]
 by_cases hlt:n < acc.length
 ·obtain ⟨c0',c1'⟩:=cellPr acc n hlt
  have ix:=Zan encP acc n 2 2 .i64 rfl hlt (by decide)
  have v3:IntKind.i64.wrap ((n:Int)+1)=(n:Int)+1:=wrapI _ (by omega) (by omega)
  have re:=r_eqP acc[n].1 acc[n].2 p.1 p.2
  have hmt:=mem_take hlt p
  have next:∀ (b:Bool) a w,b=decide (p ∈ acc.take (n+1))->Zag C shNO (stN' t d lt i x cl k b (n+1) p++[pRow encP acc]) a w->∃ n',n' < acc.length - n/\∃ n:Nat,n<=acc.length/\n'=acc.length - n/\Zag C shNO (stN' t d lt i x cl k (decide (p ∈ acc.take n)) n p++[pRow encP acc]) a w:=by
   rintro b a w rfl h
   exact ⟨acc.length - (n+1),by omega,n+1,by omega,rfl,h⟩
  rw [hmt] at next
  clear hmt
  generalize decide (p ∈ acc.take n)=b at *
  cases b with
  | true =>
   refine Zad names_ok mixed_ok (Zae _) nO1 hin ?_ ?_
   ·simp [Zab,Zaa,Base.ev,SX.ev,evs,Value.oneCell',lenP,binPV,c0',c1',ix,v3,hlt]
   ·intro qs a1 w1 hq h1
    simp [evs,SX.ev,binPV,v3] at hq
    subst hq
    exact ⟨fun _=>.inl ⟨rfl,next true a1 w1 (by simp) h1⟩,fun h=>absurd rfl h⟩
  | false =>
   by_cases he:acc[n]=p
   ·have re':ropPV .allB [pB (acc[n].1 == p.1),pB (acc[n].2 == p.2)]=some (pB true):=by rw [re];simp [he]
    refine Zad names_ok mixed_ok (Zae _) nOt hin ?_ ?_
    ·simp [Zab,Zaa,Base.ev,SX.ev,evs,Value.oneCell',lenP,binPV,c0',c1',ix,v3,hlt,r_eqI,re']
     all_goals omega
    ·intro qs a1 w1 hq h1
     simp [evs,SX.ev,binPV,v3] at hq
     subst hq
     exact ⟨fun _=>.inl ⟨rfl,next true a1 w1 (by simp [he]) h1⟩,fun h=>absurd rfl h⟩
   ·have re':ropPV .allB [pB (acc[n].1 == p.1),pB (acc[n].2 == p.2)]=some (pB false):=by rw [re];simp [he]
    refine Zad names_ok mixed_ok (Zae _) nO0 hin ?_ ?_
    ·simp [Zab,Zaa,Base.ev,SX.ev,evs,Value.oneCell',lenP,binPV,c0',c1',ix,v3,hlt,r_eqI,re']
     all_goals omega
    ·intro qs a1 w1 hq h1
     simp [evs,SX.ev,binPV,v3] at hq
     subst hq
     exact ⟨fun _=>.inl ⟨rfl,next false a1 w1 (by simp [he]) h1⟩,fun h=>absurd rfl h⟩
 ·have hne:n=acc.length:=by omega
  subst hne
  rw [List.take_length] at hin
  refine Zad names_ok mixed_ok (Zae _) nxO hin ?_ ?_
  ·simp [Base.ev,SX.ev,evs,Value.oneCell',binPV,lenP]
  ·intro qs a1 w1 hq h1
   simp [evs,SX.ev] at hq
   subst hq
   exact ⟨nofun,fun _=>.inr (.inl ⟨by rw [show Zaf (nth bkK 3)=6 by kernel_rfl];rfl,hQ _ _ h1⟩)⟩
set_option maxHeartbeats 2000000 in
theorem loopK (C:Base) (t:Int) (d:DL) (lt:List LeM) (i:Nat) (x:LeM) (cl:List Int) (acc0:List Pr) (hL:acc0.length+cl.length<=990000) (Q:Exit->Act->World->Prop) (R:List Code)
  (hQ:∀ a w,InS C t d lt i (dix.addC x.2.2.1 cl acc0) a w->wpL Try.prog R Q a w) {a:Act} {w:World} (hin:InK C t d lt i x cl 0 acc0 a w) :
  wpL Try.prog (.block (Zaf (nth bkS 3)) (.loop (Zah (nth bkS 3))) :: R) Q a w:=by
 generalize hZ:dix.addC x.2.2.1 cl acc0=Z at *
 refine Zas (fun n a w=>∃ (k:Nat) (acc:List Pr),n=cl.length - k/\k<=cl.length/\acc.length+(cl.length - k)<=990000/\dix.addC x.2.2.1 (cl.drop k) acc=Z/\InK C t d lt i x cl k acc a w) ?_
  (n:=cl.length) ⟨0,acc0,by omega,by omega,by omega,hZ,hin⟩
 rintro n a w ⟨k,acc,rfl,hk,hlen,hz,hin⟩
 show wpL Try.prog lpK _ a w
 by_cases hlt:k < cl.length
 ·have hc:=cellN cl k hlt
  have ix:=Zan encN cl k 1 1 .i64 rfl hlt (by decide)
  have v3:IntKind.i64.wrap ((k:Int)+1)=(k:Int)+1:=wrapI _ (by omega) (by omega)
  rw [addC_take _ _ hlt] at hz
  have hal:=Zmx acc (x.2.2.1,cl[k])
  obtain ⟨Q',hQ'⟩:∃ Q':Exit->Act->World->Prop,Q'=(fun e a' w'=>(e=.normal/\∃ n',n' < cl.length - k/\∃ (k:Nat) (acc:List Pr),n'=cl.length - k/\k<=cl.length/\acc.length+(cl.length - k)<=990000/\dix.addC x.2.2.1 (cl.drop k) acc=Z/\InK C t d lt i x cl k acc a' w') \/ (e=.exit (Zaf (nth bkS 3))/\wpL Try.prog R Q a' w') \/ (e=.ret/\Q .ret a' w')):=⟨_,rfl⟩
  have step:∀ a w,Zag C shKO (stK t d lt i x cl k++[pRow encP (addP acc (x.2.2.1,cl[k]))]) a w->wpL Try.prog (lpK.drop 3) Q' a w:=by
   intro a w hin
   rw [hQ',<- List.append_nil (lpK.drop 3)]
   refine Zad names_ok mixed_ok (Zae _) kst hin ?_ ?_
   ·simp [Base.ev,SX.ev,evs,Value.oneCell',binPV,v3,lenP]
   ·intro qs a2 w2 hq h2'
    simp [evs,SX.ev,binPV,v3] at hq
    subst hq
    exact ⟨fun _=>.inl ⟨rfl,_,by omega,k+1,_,rfl,by omega,by omega,hz,.inr h2'⟩,fun h=>absurd rfl h⟩
  rw [<- hQ',cutK]
  clear hQ'
  rcases hin with ⟨h00,hin⟩ | hin
  ·subst h00
   refine Zad names_ok mixed_ok (Zae _) khN hin ?_ ?_
   ·simp [Zab,Zaa,Base.ev,SX.ev,evs,Value.oneCell',Zac,lenN,binPV,hlt]
   intro qs a2 w2 hq h2'
   refine ⟨fun _=>?_,fun h=>absurd rfl h⟩
   simp [evs,SX.ev] at hq
   subst hq
   refine Zcj ?_
   show wpL Try.prog bkK _ a2 w2
   rw [cutL]
   refine Zad names_ok mixed_ok (Zae _) kbN h2' ?_ ?_
   ·simp [Zab,Zaa,Base.ev,SX.ev,evs,Value.oneCell',Zac,lenN,binPV,hc,ix]
   intro qs a3 w3 hq h3'
   refine ⟨fun _=>?_,fun h=>absurd rfl h⟩
   simp [evs,SX.ev,hc] at hq
   subst hq
   refine Zas (fun q a w=>q=0/\Zag C shNN (stN' t d lt i x cl k false 0 (x.2.2.1,cl[k])) a w) ?_ (n:=0) ⟨rfl,h3'⟩
   rintro q a w ⟨rfl,hin⟩
   show wpL Try.prog lpN _ a w
   rw [<- List.append_nil lpN]
   refine Zad names_ok mixed_ok (Zae _) nxN hin ?_ ?_
   ·simp [Base.ev,SX.ev,evs,Value.oneCell',binPV]
   intro qs a4 w4 hq h4'
   simp [evs,SX.ev] at hq
   subst hq
   refine ⟨nofun,fun _=>.inr (.inl ⟨by rw [show Zaf (nth bkK 3)=6 by kernel_rfl];rfl,?_⟩)⟩
   rw [<- List.append_nil (bkK.drop 4)]
   have r1:=one_rowP (x.2.2.1,cl[k])
   simp only at r1
   have hap:addP [] (x.2.2.1,cl[k])=[(x.2.2.1,cl[k])]:=by simp [addP]
   rw [hap] at step
   refine Zad names_ok mixed_ok (Zae _) kpN h4' ?_ ?_
   ·simp [Zab,Zaa,Base.ev,SX.ev,evs,Value.oneCell',Zac,binPV,r1]
   ·intro qs a5 w5 hq h5'
    simp [evs,SX.ev,r1] at hq
    subst hq
    exact ⟨fun _=>.inl ⟨rfl,step a5 w5 h5'⟩,fun h=>absurd rfl h⟩
  ·refine Zad names_ok mixed_ok (Zae _) khO hin ?_ ?_
   ·simp [Zab,Zaa,Base.ev,SX.ev,evs,Value.oneCell',Zac,lenN,lenP,binPV,hlt]
   intro qs a2 w2 hq h2'
   refine ⟨fun _=>?_,fun h=>absurd rfl h⟩
   simp [evs,SX.ev] at hq
   subst hq
   refine Zcj ?_
   show wpL Try.prog bkK _ a2 w2
   rw [cutL]
   refine Zad names_ok mixed_ok (Zae _) kbO h2' ?_ ?_
   ·simp [Zab,Zaa,Base.ev,SX.ev,evs,Value.oneCell',Zac,lenN,lenP,binPV,hc,ix]
   intro qs a3 w3 hq h3'
   refine ⟨fun _=>?_,fun h=>absurd rfl h⟩
   simp [evs,SX.ev,hc] at hq
   subst hq
   refine loopN C t d lt i x cl k (x.2.2.1,cl[k]) acc (by omega) _ (bkK.drop 4) ?_ h3'
   intro a4 w4 h4'
   rw [<- List.append_nil (bkK.drop 4)]
   by_cases hm:(x.2.2.1,cl[k]) ∈ acc
   ·rw [decide_eq_true hm] at h4'
    rw [addP,if_pos hm] at step
    refine Zad names_ok mixed_ok (Zae _) kpT h4' ?_ ?_
    ·simp [Zab,Zaa,Base.ev,SX.ev,evs,Value.oneCell',lenP,binPV]
    ·intro qs a5 w5 hq h5'
     simp [evs,SX.ev] at hq
     subst hq
     exact ⟨fun _=>.inl ⟨rfl,step a5 w5 h5'⟩,fun h=>absurd rfl h⟩
   ·rw [decide_eq_false hm] at h4'
    rw [addP,if_neg hm] at step
    have rc:=r_catP acc (x.2.2.1,cl[k])
    have hla:(acc++[(x.2.2.1,cl[k])]).length=acc.length+1:=by simp
    simp only at rc
    refine Zad names_ok mixed_ok (Zae _) kpO h4' ?_ ?_
    ·simp [Zab,Zaa,Base.ev,SX.ev,evs,Value.oneCell',lenP,binPV,rc]
     all_goals first | omega | exact ⟨⟨acc.length+1,by omega,by omega⟩,acc.length+1,by omega⟩
    ·intro qs a5 w5 hq h5'
     simp [evs,SX.ev,rc] at hq
     subst hq
     exact ⟨fun _=>.inl ⟨rfl,step a5 w5 h5'⟩,fun h=>absurd rfl h⟩
 ·have hke:k=cl.length:=by omega
  subst hke
  rw [List.drop_length] at hz
  simp only [dix.addC] at hz
  subst hz
  rw [<- List.append_nil lpK]
  rcases hin with ⟨h00,hin⟩ | hin
  ·refine Zad names_ok mixed_ok (Zae _) kxN hin ?_ ?_
   ·simp [Base.ev,SX.ev,evs,Value.oneCell',binPV,lenN]
   ·intro qs a1 w1 hq h1
    simp [evs,SX.ev] at hq
    subst hq
    exact ⟨nofun,fun _=>.inr (.inl ⟨by rw [show Zaf (nth bkS 3)=4 by kernel_rfl];rfl,hQ _ _ (.inl ⟨h00,h1⟩)⟩)⟩
  ·refine Zad names_ok mixed_ok (Zae _) kxO hin ?_ ?_
   ·simp [Base.ev,SX.ev,evs,Value.oneCell',binPV,lenN,lenP]
   ·intro qs a1 w1 hq h1
    simp [evs,SX.ev] at hq
    subst hq
    exact ⟨nofun,fun _=>.inr (.inl ⟨by rw [show Zaf (nth bkS 3)=4 by kernel_rfl];rfl,hQ _ _ (.inr h1)⟩)⟩
def RRd (ps qs:List PV):Prop:=∃ (d:DL) (t:Int),d.1.length<=900/\d.2.length<=900/\0<=t/\t<=1000000/\ps=[pRow encL d.1,pRow encL d.2,pI t]/\qs=[pRow encL (runQ t d).1.1,pRow encL (runQ t d).1.2,pRow encL (runQ t d).2.1,pRow encP (runQ t d).2.2]
theorem fRd:∀ ps q1 q2,RRd ps q1->RRd ps q2->q1=q2:=by
 rintro ps q1 q2 ⟨⟨a,b⟩,t,_,_,_,_,rfl,rfl⟩ ⟨⟨a',b'⟩,t',_,_,_,_,h,rfl⟩
 simp only [List.cons.injEq,PV.v.injEq,Value.int.injEq,true_and,and_true] at h
 obtain ⟨h1,h2,rfl⟩:=h
 obtain rfl:=fil.pRow_inj Zar h1
 obtain rfl:=fil.pRow_inj Zar h2
 rfl
set_option maxHeartbeats 4000000 in
theorem toldRd (k:Nat):ToldF 15 (ERd k) (spec RRd):=by
 refine Zcy G _ (Za1 Try.prog 15) Try.func15 (by kernel_rfl) lrd.shR (by kernel_rfl) ?_ ?_
 ·intro ps qs h
  obtain ⟨d,t,_,_,_,_,rfl,rfl⟩:=Zal h
  exact Zb3 rfl
 ·intro C ps qs hF h a w hsh
  obtain ⟨d0,t,hd1,hd2,h0,h1,rfl,rfl⟩:=Zal h
  have g2:=ldk.G2 (l:=d0.1) (t:=t) (by omega)
  have hpl:(leb.pruneL d0.1 t).length<=d0.1.length:=List.length_filter_le _ _
  unfold runQ
  obtain ⟨P,hP⟩:∃ P:DL,P=(leb.pruneL d0.1 t,d0.2):=⟨_,rfl⟩
  have hP1:P.1=leb.pruneL d0.1 t:=by rw [hP]
  have hP2:P.2=d0.2:=by rw [hP]
  simp only [<- hP]
  rw [<- hP1] at g2 hpl
  rw [<- hP2] at hd2
  have hle:=loopQ_len t P.2.length P
  rw [<- hP2]
  have hl1:=loop1 C hF t h0 h1 P (by omega)
  generalize loopQ t P.2.length P=Z at *
  obtain ⟨d,lt⟩:=Z
  simp only at hle hl1 ⊢
  obtain ⟨hz1,hz2,hz3⟩:=hle
  show wpL Try.prog flR _ a w
  rw [cutR]
  refine Zad names_ok mixed_ok (Zae _) lrd.pre hsh ?_ ?_
  ·simp [Base.ev,SX.ev,evs,Value.oneCell',hF,g2,ldk.t2]
  intro qs a1 w1 hq h1'
  refine ⟨fun _=>?_,fun h=>absurd rfl h⟩
  simp [evs,SX.ev,hF,g2] at hq
  subst hq
  rw [<- hP2] at h1'
  refine hl1 _ _ ?_ (.inl ⟨rfl,h1'⟩)
  have body:∀ a w,Zag C shSN (stS t d lt 0) a w->wpL Try.prog (.block (Zaf (nth flR 7)) (.loop (Zah (nth flR 7))) :: flR.drop 8) (fun e a' w'=>(e=.normal \/ e=.ret)/\∃ sh' ps' es,Zag C sh' ps' a' w'/\resTo Try.prog Try.f15 sh' (ERd k)=some es/\evs (fun i=>ps'[i]?) G es=some [pRow encL d.1,pRow encL d.2,pRow encL lt,pRow encP (callsF (clQ d t) d.2 [])]) a w:=by
   intro a w hin
   generalize hZ:callsF (clQ d t) d.2 []=Z at *
   refine Zas (fun n a w=>∃ (i:Nat) (acc:List Pr),n=d.2.length - i/\i<=d.2.length/\acc.length+(d.2.length - i) * 3<=2700/\callsF (clQ d t) (d.2.drop i) acc=Z/\InS C t d lt i acc a w) ?_
    (n:=d.2.length) ⟨0,[],by omega,by omega,by simp;omega,hZ,.inl ⟨rfl,hin⟩⟩
   rintro n a w ⟨i,acc,rfl,hi,hlen,hz,hin⟩
   show wpL Try.prog lpS _ a w
   by_cases hlt:i < d.2.length
   ·obtain ⟨c0',c1',c2',c3'⟩:=cellL d.2 i hlt
    have ix:=Zan encL d.2 i 4 4 .i64 rfl hlt (by decide)
    have v3:IntKind.i64.wrap ((i:Int)+1)=(i:Int)+1:=wrapI _ (by omega) (by omega)
    rw [calls_take _ _ hlt] at hz
    have hcl:(clQ d t d.2[i]).length<=3:=lcq.clashQ_len _ _ _ _ _ 3
    have hal:=Zmy d.2[i].2.2.1 (clQ d t d.2[i]) acc
    have g3:=G3 (l:=d.1) (t:=t) (c:=d.2[i].1) (f:=d.2[i].2.2.1) (m:=d.2[i].2.2.2) (by omega)
    rw [show Zb1 d.1 t d.2[i].1 d.2[i].2.2.1 d.2[i].2.2.2 3=clQ d t d.2[i] from rfl] at g3
    obtain ⟨Q',hQ'⟩:∃ Q':Exit->Act->World->Prop,Q'=(fun e a' w'=>(e=.normal/\∃ n',n' < d.2.length - i/\∃ (i:Nat) (acc:List Pr),n'=d.2.length - i/\i<=d.2.length/\acc.length+(d.2.length - i) * 3<=2700/\callsF (clQ d t) (d.2.drop i) acc=Z/\InS C t d lt i acc a' w') \/ (e=.exit (Zaf (nth flR 7))/\wpL Try.prog (flR.drop 8) (fun e a' w'=>(e=.normal \/ e=.ret)/\∃ sh' ps' es,Zag C sh' ps' a' w'/\resTo Try.prog Try.f15 sh' (ERd k)=some es/\evs (fun i=>ps'[i]?) G es=some [pRow encL d.1,pRow encL d.2,pRow encL lt,pRow encP Z]) a' w') \/ (e=.ret/\((Exit.ret=.normal \/ Exit.ret=.ret)/\∃ sh' ps' es,Zag C sh' ps' a' w'/\resTo Try.prog Try.f15 sh' (ERd k)=some es/\evs (fun i=>ps'[i]?) G es=some [pRow encL d.1,pRow encL d.2,pRow encL lt,pRow encP Z]))):=⟨_,rfl⟩
    have step:∀ a w,InS C t d lt i (dix.addC d.2[i].2.2.1 (clQ d t d.2[i]) acc) a w->wpL Try.prog (lpS.drop 3) Q' a w:=by
     intro a w hin
     rw [hQ',<- List.append_nil (lpS.drop 3)]
     rcases hin with ⟨h00,hin⟩ | hin
     ·refine Zad names_ok mixed_ok (Zae _) stN hin ?_ ?_
      ·simp [Base.ev,SX.ev,evs,Value.oneCell',binPV,v3]
      ·intro qs a2 w2 hq h2'
       simp [evs,SX.ev,binPV,v3] at hq
       subst hq
       exact ⟨fun _=>.inl ⟨rfl,_,by omega,i+1,_,rfl,by omega,by omega,hz,.inl ⟨h00,h2'⟩⟩,fun h=>absurd rfl h⟩
     ·refine Zad names_ok mixed_ok (Zae _) stO hin ?_ ?_
      ·simp [Base.ev,SX.ev,evs,Value.oneCell',binPV,v3,lenP]
      ·intro qs a2 w2 hq h2'
       simp [evs,SX.ev,binPV,v3] at hq
       subst hq
       exact ⟨fun _=>.inl ⟨rfl,_,by omega,i+1,_,rfl,by omega,by omega,hz,.inr h2'⟩,fun h=>absurd rfl h⟩
    rw [<- hQ',cutS]
    clear hQ'
    generalize clQ d t d.2[i]=cl at *
    rcases hin with ⟨h00,hin⟩ | hin
    ·refine Zad names_ok mixed_ok (Zae _) hsN hin ?_ ?_
     ·simp [Zab,Zaa,Base.ev,SX.ev,evs,Value.oneCell',lenL,Zac,binPV,hlt]
     intro qs a2 w2 hq h2'
     refine ⟨fun _=>?_,fun h=>absurd rfl h⟩
     simp [evs,SX.ev] at hq
     subst hq
     refine Zcj ?_
     show wpL Try.prog bkS _ a2 w2
     rw [cutT]
     refine Zad names_ok mixed_ok (Zae _) sbN h2' ?_ ?_
     ·simp [Zab,Zaa,Base.ev,SX.ev,evs,Value.oneCell',hF,g3,ldk.t3,binPV,c0',c1',c2',c3',ix,hlt,lenN,lenL]
     intro qs a3 w3 hq h3'
     refine ⟨fun _=>?_,fun h=>absurd rfl h⟩
     simp [evs,SX.ev,hF,g3,c0',c1',c2',c3'] at hq
     subst hq
     exact loopK C t d lt i d.2[i] cl acc (by omega) _ [] (fun a w h=>.inl ⟨rfl,step a w h⟩) (.inl ⟨h00,h3'⟩)
    ·refine Zad names_ok mixed_ok (Zae _) hsO hin ?_ ?_
     ·simp [Zab,Zaa,Base.ev,SX.ev,evs,Value.oneCell',lenL,Zac,lenP,binPV,hlt]
     intro qs a2 w2 hq h2'
     refine ⟨fun _=>?_,fun h=>absurd rfl h⟩
     simp [evs,SX.ev] at hq
     subst hq
     refine Zcj ?_
     show wpL Try.prog bkS _ a2 w2
     rw [cutT]
     refine Zad names_ok mixed_ok (Zae _) sbO h2' ?_ ?_
     ·simp [Zab,Zaa,Base.ev,SX.ev,evs,Value.oneCell',hF,g3,ldk.t3,binPV,c0',c1',c2',c3',ix,hlt,lenN,lenL,lenP]
     intro qs a3 w3 hq h3'
     refine ⟨fun _=>?_,fun h=>absurd rfl h⟩
     simp [evs,SX.ev,hF,g3,c0',c1',c2',c3'] at hq
     subst hq
     exact loopK C t d lt i d.2[i] cl acc (by omega) _ [] (fun a w h=>.inl ⟨rfl,step a w h⟩) (.inr h3')
   ·have hie:i=d.2.length:=by omega
    subst hie
    rw [List.drop_length] at hz
    simp only [callsF] at hz
    subst hz
    rw [<- List.append_nil lpS]
    rcases hin with ⟨h00,hin⟩ | hin
    ·subst h00
     refine Zad names_ok mixed_ok (Zae _) sxN hin ?_ ?_
     ·simp [Base.ev,SX.ev,evs,Value.oneCell',binPV,lenL]
     ·intro qs a2 w2 hq h2'
      refine ⟨nofun,fun _=>.inr (.inl ⟨by rw [show Zaf (nth flR 7)=2 by kernel_rfl];rfl,?_⟩)⟩
      simp [evs,SX.ev] at hq
      subst hq
      rw [<- List.append_nil (flR.drop 8)]
      refine Zad names_ok mixed_ok (Zae _) poN h2' (by simp) ?_
      intro qs a3 w3 hq h3'
      simp [evs,SX.ev] at hq
      subst hq
      exact ⟨nofun,fun _=>⟨.inr rfl,shEN,_,[.var 1,.var 2,.var 0,.lit 0 []],h3',by kernel_rfl,by simp [evs,SX.ev,pRow,Enc.all]⟩⟩
    ·refine Zad names_ok mixed_ok (Zae _) sxO hin ?_ ?_
     ·simp [Base.ev,SX.ev,evs,Value.oneCell',binPV,lenL,lenP]
     ·intro qs a2 w2 hq h2'
      refine ⟨nofun,fun _=>.inr (.inl ⟨by rw [show Zaf (nth flR 7)=2 by kernel_rfl];rfl,?_⟩)⟩
      simp [evs,SX.ev] at hq
      subst hq
      rw [<- List.append_nil (flR.drop 8)]
      refine Zad names_ok mixed_ok (Zae _) poO h2' ?_ ?_
      ·simp [Base.ev,SX.ev,evs,Value.oneCell',lenP]
      intro qs a3 w3 hq h3'
      simp [evs,SX.ev] at hq
      subst hq
      exact ⟨nofun,fun _=>⟨.inr rfl,shEO,_,[.var 1,.var 2,.var 0,.var 3],h3',by kernel_rfl,by simp [evs,SX.ev]⟩⟩
  intro i a2 w2 hin
  rcases hin with ⟨h00,hin⟩ | ⟨h00,hin⟩
  ·refine Zad names_ok mixed_ok (Zae _) midA hin ?_ ?_
   ·simp [Base.ev,SX.ev,evs,Value.oneCell',lenL]
   intro qs a3 w3 hq h3
   refine ⟨fun _=>body a3 w3 ?_,fun h=>absurd rfl h⟩
   simp [evs,SX.ev] at hq
   subst hq
   subst h00
   exact h3
  ·refine seg_okZ names_ok mixed_ok (Zae _) midB hin ?_ ?_
   ·simp [Base.ev,SX.ev,evs,Value.oneCell',lenL]
   intro qs a3 w3 hq h3
   refine body a3 w3 ?_
   simp [evs,SX.ev] at hq
   subst hq
   exact h3
end Go.Proofs.Ytcaclmdkhffegaa.lrf
