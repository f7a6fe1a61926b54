/- What lasts: whether it may be (the document's Zeo): told. -/
import Derived.Test.YtefkakjegdjojaaGreatSmb
namespace Go.Proofs.YtefkakjegdjojaaGreat.sta
open Go Go.RowKit eng SX Fact fil fileFronts dirs pck may
open fileFronts
open pck hiding F F20 F21
open dirs hiding shR shRl shRR flR lpR cutR f0 f1 f2 f3 x2 x3 n1
open may hiding r1 r2 r3 r4 r5
set_option linter.unusedVariables false
set_option linter.unusedSimpArgs false
set_option maxRecDepth 1000000

noncomputable def flY:=flat (Zar Tryz.prog 53)
noncomputable def lpY1:=flat (Zak (nth flY 4))
noncomputable def lpY2:=flat (Zak (nth flY 6))
def shY:Shape:=⟨[(0,.agg 3)],[],[some false,some false,none],117,53⟩
def shY1:Shape:=⟨[(1,.ptr 0 0 0 0),(3,.leaf)],[sbx],[none,some false,some false,none],117,53⟩
def shY2:Shape:=⟨[(1,.ptr 0 0 0 0),(7,.leaf)],[sbx],[none,some false,some false,none],117,53⟩
def shYR:Shape:=⟨[(2,.leaf)],[],[none],117,53⟩
def tabY (f:FuncId):Option FnE:=cond (Nat.beq f 33) (some (EFind 1)) (cond (Nat.beq f 31) (some (Zxn 7)) (cond (Nat.beq f 99) (some (ENumB 8)) none))
@[simp] def Zfg:SX:=rop ROp.allB [rop ROp.eqS [.cell (.var 1) (.var 0) 3 0,.con (.string { data:={ toList:=[] } })],rop ROp.eqI [.cell (.var 1) (.var 0) 3 1,.con (.int .i64 0)],rop ROp.eqS [.cell (.var 1) (.var 0) 3 2,.con (.string { data:={ toList:=[] } })]]
@[simp] def Zcw:SX:=.cell (.var 1) (.var 0) 3 0
@[simp] def Zbz:SX:=.bin .add (.var 0) (.con (.int .i64 1))
@[simp] def Zd8:SX:=.cell (.var 2) (.var 0) 4 0
@[simp] def Zf7:SX:=.bin .lss (.cell (.var 2) (.var 0) 4 1) (.con (.int .i64 0))
@[simp] def Zd7:SX:=.bin .gtr (.cell (.var 2) (.var 0) 4 1) (.con (.int .i64 3))
@[simp] def Zby:SX:=.cell (.var 1) (.var 0) 3 1
@[simp] def Zd6:SX:=.bin .neq (.fn 1 [.var 1,Zcw] 0) Zbz
@[simp] def Zd5:SX:=.bin .lss (.var 0) (.len (.var 1))
@[simp] def Zdb:SX:=.bin .lss (.var 0) (.len (.var 2))
@[simp] def Zex:SX:=.bin .lss (.cell (.var 2) (.var 0) 4 2) (.con (.int .i64 0))
@[simp] def Zdv:SX:=rop ROp.notB [.fn 8 [Zd8] 0]
@[simp] def Zew:SX:=rop ROp.notB [.fn 7 [Zcw] 0]
@[simp] def Zev:SX:=.bin .neq (.len (.var 0)) (.con (.int .i64 6))
@[simp] def Zhm:SX:=.bin .gtr (.cell (.var 2) (.var 0) 4 2) (.con (.int .i64 6))
@[simp] def Zcb:SX:=.cell (.var 2) (.var 0) 4 3
@[simp] def Zeu:SX:=.bin .lss Zby (.con (.int .i64 1))
@[simp] def Zbm:Fact:=.idx (.var 1) (.var 0) 3 3
@[simp] def Zbl:Fact:=.idx (.var 2) (.var 0) 4 4
@[simp] def Zda:SX:=.cell (.var 1) (.var 0) 3 2
@[simp] def Zas:SX:=.con (.bool false)
@[simp] def Zhl:SX:=.bin .neq (.len (.var 1)) (.con (.int .i64 3))
@[simp] def Zma:List SX:=[.var 1,Zcw]
@[simp] def Zfw:Fact:=.ok (.cell (.var 2) (.var 0) 4 1)
@[simp] def Zfv:Fact:=.ok (.cell (.var 2) (.var 0) 4 2)
@[simp] def Zhk:SX:=rop ROp.notB [.fn 8 [Zby] 0]
@[simp] def Zl9:SX:=.bin .gtr (.slen Zda) (.con (.int .i64 24))
@[simp] def Zjw:Fact:=.is (.fn 1 Zma 1) (.bool true)
@[simp] def Zfu:Fact:=.fn 99 (ENumB 8) [Zd8]
@[simp] def Zft:Fact:=.is Zdb (.bool true)
@[simp] def Zfs:Fact:=.is Zd5 (.bool true)
@[simp] def Zhj:Fact:=.fn 31 (Zxn 7) [Zcw]
@[simp] def Zfr:Fact:=.ok (.fn 8 [Zd8] 0)
@[simp] def Zhi:Fact:=.is Zdv (.bool false)
@[simp] def Zhh:Fact:=.is Zfg (.bool false)
@[simp] def Zhg:Fact:=.fn 33 (EFind 1) Zma
@[simp] def Zcq:Fact:=.ok (.len (.var 1))
@[simp] def Zhf:Fact:=.ok (.fn 7 [Zcw] 0)
@[simp] def Zl8:SX:=rop ROp.notB [.fn 8 [Zcb] 0]
@[simp] def Zjv:Fact:=.is Zew (.bool false)
@[simp] def Zhe:Fact:=.ok (.fn 1 Zma 0)
@[simp] def Zju:Fact:=.is Zf7 (.bool false)
@[simp] def Zl7:SX:=rop ROp.notB [.fn 8 [.var 2] 0]
theorem yp:segTo Tryz.prog (orcFn tabY) 10000 (flY.take 4) shY [0,0,0] shY1 [(2,0)] hP=some (.normal,[.ok (.len (.var 0)),.ok Zev,.is Zev (.bool false),Zcq,.ok Zhl,.is Zhl (.bool false),.fn 99 (ENumB 8) [.var 2],.ok (.fn 8 [.var 2] 0),.ok Zl7,.is Zl7 (.bool false),.ok (.con (.int .i64 0)),.ok (.var 2)],[.con (.int .i64 0),.var 0,.var 1,.var 2]):=by kernel_rfl
theorem yn0:segTo Tryz.prog (orcFn tabY) 10000 (flY.take 4) shY [1] shYR [] hP=some (.ret,[.ok (.len (.var 0)),.ok Zev,.is Zev (.bool true),.ok Zas],[Zas]):=by kernel_rfl
theorem yn1:segTo Tryz.prog (orcFn tabY) 10000 (flY.take 4) shY [0,1] shYR [] hP=some (.ret,[.ok (.len (.var 0)),.ok Zev,.is Zev (.bool false),Zcq,.ok Zhl,.is Zhl (.bool true),.ok Zas],[Zas]):=by kernel_rfl
theorem yn2:segTo Tryz.prog (orcFn tabY) 10000 (flY.take 4) shY [0,0,1] shYR [] hP=some (.ret,[.ok (.len (.var 0)),.ok Zev,.is Zev (.bool false),Zcq,.ok Zhl,.is Zhl (.bool false),.fn 99 (ENumB 8) [.var 2],.ok (.fn 8 [.var 2] 0),.ok Zl7,.is Zl7 (.bool true),.ok Zas],[Zas]):=by kernel_rfl
theorem yx:segTo Tryz.prog (orcFn tabY) 10000 lpY1 shY1 [0] shY1 [(0,0)] hP=some (.exit 0,[Zcq,.ok Zd5,.is Zd5 (.bool false),.ok (.var 0),.ok (.var 3)],[.var 0,.var 1,.var 2,.var 3]):=by kernel_rfl
theorem ye:segTo Tryz.prog (orcFn tabY) 10000 lpY1 shY1 [1,1] shY1 [(0,0)] hP=some (.normal,[Zcq,.ok Zd5,Zfs,Zbm,Zbm,.ok Zcw,.ok Zby,.ok Zda,.ok Zfg,.is Zfg (.bool true),.ok Zbz,.ok Zbz,.ok (.var 3)],[Zbz,.var 1,.var 2,.var 3]):=by kernel_rfl
theorem yg:segTo Tryz.prog (orcFn tabY) 10000 lpY1 shY1 [1,0,1,0,0,0,0,0] shY1 [(0,0)] hP=some (.normal,[Zcq,.ok Zd5,Zfs,Zbm,Zbm,.ok Zcw,.ok Zby,.ok Zda,.ok Zfg,Zhh,Zhg,Zhe,Zjw,Zhj,Zhf,.ok Zew,Zjv,.ok Zbz,.ok Zd6,.is Zd6 (.bool false),.ok Zeu,.is Zeu (.bool false),.fn 99 (ENumB 8) [Zby],.ok (.fn 8 [Zby] 0),.ok Zhk,.is Zhk (.bool false),.ok (.slen Zda),.ok Zl9,.is Zl9 (.bool false),.ok Zbz,.ok Zbz,.ok (.var 3)],[Zbz,.var 1,.var 2,.var 3]):=by kernel_rfl
theorem yb0:segTo Tryz.prog (orcFn tabY) 10000 lpY1 shY1 [1,0,0,1] shYR [] hP=some (.ret,[Zcq,.ok Zd5,Zfs,Zbm,Zbm,.ok Zcw,.ok Zby,.ok Zda,.ok Zfg,Zhh,Zhg,Zhe,.is (.fn 1 Zma 1) (.bool false),Zhj,Zhf,.ok Zew,.is Zew (.bool true),.ok Zas],[Zas]):=by kernel_rfl
theorem yb1:segTo Tryz.prog (orcFn tabY) 10000 lpY1 shY1 [1,0,1,0,1] shYR [] hP=some (.ret,[Zcq,.ok Zd5,Zfs,Zbm,Zbm,.ok Zcw,.ok Zby,.ok Zda,.ok Zfg,Zhh,Zhg,Zhe,Zjw,Zhj,Zhf,.ok Zew,Zjv,.ok Zbz,.ok Zd6,.is Zd6 (.bool true),.ok Zas],[Zas]):=by kernel_rfl
theorem yb2:segTo Tryz.prog (orcFn tabY) 10000 lpY1 shY1 [1,0,1,0,0,1] shYR [] hP=some (.ret,[Zcq,.ok Zd5,Zfs,Zbm,Zbm,.ok Zcw,.ok Zby,.ok Zda,.ok Zfg,Zhh,Zhg,Zhe,Zjw,Zhj,Zhf,.ok Zew,Zjv,.ok Zbz,.ok Zd6,.is Zd6 (.bool false),.ok Zeu,.is Zeu (.bool true),.ok Zas],[Zas]):=by kernel_rfl
theorem yb3:segTo Tryz.prog (orcFn tabY) 10000 lpY1 shY1 [1,0,1,0,0,0,1] shYR [] hP=some (.ret,[Zcq,.ok Zd5,Zfs,Zbm,Zbm,.ok Zcw,.ok Zby,.ok Zda,.ok Zfg,Zhh,Zhg,Zhe,Zjw,Zhj,Zhf,.ok Zew,Zjv,.ok Zbz,.ok Zd6,.is Zd6 (.bool false),.ok Zeu,.is Zeu (.bool false),.fn 99 (ENumB 8) [Zby],.ok (.fn 8 [Zby] 0),.ok Zhk,.is Zhk (.bool true),.ok Zas],[Zas]):=by kernel_rfl
theorem yb4:segTo Tryz.prog (orcFn tabY) 10000 lpY1 shY1 [1,0,1,0,0,0,0,1] shYR [] hP=some (.ret,[Zcq,.ok Zd5,Zfs,Zbm,Zbm,.ok Zcw,.ok Zby,.ok Zda,.ok Zfg,Zhh,Zhg,Zhe,Zjw,Zhj,Zhf,.ok Zew,Zjv,.ok Zbz,.ok Zd6,.is Zd6 (.bool false),.ok Zeu,.is Zeu (.bool false),.fn 99 (ENumB 8) [Zby],.ok (.fn 8 [Zby] 0),.ok Zhk,.is Zhk (.bool false),.ok (.slen Zda),.ok Zl9,.is Zl9 (.bool true),.ok Zas],[Zas]):=by kernel_rfl
theorem yd:segTo Tryz.prog (orcFn tabY) 10000 ((flY.drop 5).take 1) shY1 [] shY2 [(0,0)] hP=some (.normal,[.ok (.con (.int .i64 0)),.ok (.var 3)],[.con (.int .i64 0),.var 1,.var 2,.var 3]):=by kernel_rfl
theorem yx2:segTo Tryz.prog (orcFn tabY) 10000 lpY2 shY2 [0] shY2 [(0,0)] hP=some (.exit 2,[.ok (.len (.var 2)),.ok Zdb,.is Zdb (.bool false),.ok (.var 0),.ok (.var 3)],[.var 0,.var 1,.var 2,.var 3]):=by kernel_rfl
theorem yg2:segTo Tryz.prog (orcFn tabY) 10000 lpY2 shY2 [1,0,0,0,0,0,0] shY2 [(0,0)] hP=some (.normal,[.ok (.len (.var 2)),.ok Zdb,Zft,Zbl,Zbl,.ok Zd8,Zfw,Zfv,.ok Zcb,Zfu,Zfr,.ok Zdv,Zhi,.ok Zf7,Zju,.ok Zd7,.is Zd7 (.bool false),.ok Zex,.is Zex (.bool false),.ok Zhm,.is Zhm (.bool false),.fn 99 (ENumB 8) [Zcb],.ok (.fn 8 [Zcb] 0),.ok Zl8,.is Zl8 (.bool false),.ok Zbz,.ok Zbz,.ok (.var 3)],[Zbz,.var 1,.var 2,.var 3]):=by kernel_rfl
theorem yc0:segTo Tryz.prog (orcFn tabY) 10000 lpY2 shY2 [1,1] shYR [] hP=some (.ret,[.ok (.len (.var 2)),.ok Zdb,Zft,Zbl,Zbl,.ok Zd8,Zfw,Zfv,.ok Zcb,Zfu,Zfr,.ok Zdv,.is Zdv (.bool true),.ok Zas],[Zas]):=by kernel_rfl
theorem yc1:segTo Tryz.prog (orcFn tabY) 10000 lpY2 shY2 [1,0,1] shYR [] hP=some (.ret,[.ok (.len (.var 2)),.ok Zdb,Zft,Zbl,Zbl,.ok Zd8,Zfw,Zfv,.ok Zcb,Zfu,Zfr,.ok Zdv,Zhi,.ok Zf7,.is Zf7 (.bool true),.ok Zas],[Zas]):=by kernel_rfl
theorem yc2:segTo Tryz.prog (orcFn tabY) 10000 lpY2 shY2 [1,0,0,1] shYR [] hP=some (.ret,[.ok (.len (.var 2)),.ok Zdb,Zft,Zbl,Zbl,.ok Zd8,Zfw,Zfv,.ok Zcb,Zfu,Zfr,.ok Zdv,Zhi,.ok Zf7,Zju,.ok Zd7,.is Zd7 (.bool true),.ok Zas],[Zas]):=by kernel_rfl
theorem yc3:segTo Tryz.prog (orcFn tabY) 10000 lpY2 shY2 [1,0,0,0,1] shYR [] hP=some (.ret,[.ok (.len (.var 2)),.ok Zdb,Zft,Zbl,Zbl,.ok Zd8,Zfw,Zfv,.ok Zcb,Zfu,Zfr,.ok Zdv,Zhi,.ok Zf7,Zju,.ok Zd7,.is Zd7 (.bool false),.ok Zex,.is Zex (.bool true),.ok Zas],[Zas]):=by kernel_rfl
theorem yc4:segTo Tryz.prog (orcFn tabY) 10000 lpY2 shY2 [1,0,0,0,0,1] shYR [] hP=some (.ret,[.ok (.len (.var 2)),.ok Zdb,Zft,Zbl,Zbl,.ok Zd8,Zfw,Zfv,.ok Zcb,Zfu,Zfr,.ok Zdv,Zhi,.ok Zf7,Zju,.ok Zd7,.is Zd7 (.bool false),.ok Zex,.is Zex (.bool false),.ok Zhm,.is Zhm (.bool true),.ok Zas],[Zas]):=by kernel_rfl
theorem yc5:segTo Tryz.prog (orcFn tabY) 10000 lpY2 shY2 [1,0,0,0,0,0,1] shYR [] hP=some (.ret,[.ok (.len (.var 2)),.ok Zdb,Zft,Zbl,Zbl,.ok Zd8,Zfw,Zfv,.ok Zcb,Zfu,Zfr,.ok Zdv,Zhi,.ok Zf7,Zju,.ok Zd7,.is Zd7 (.bool false),.ok Zex,.is Zex (.bool false),.ok Zhm,.is Zhm (.bool false),.fn 99 (ENumB 8) [Zcb],.ok (.fn 8 [Zcb] 0),.ok Zl8,.is Zl8 (.bool true),.ok Zas],[Zas]):=by kernel_rfl
theorem yz:segTo Tryz.prog (orcFn tabY) 10000 (flY.drop 7) shY2 [] shYR [] hP=some (.ret,[.ok (.con (.bool true))],[.con (.bool true)]):=by kernel_rfl

theorem Zct:OrcOk Tryz.prog (orcFn tabY):=Zai tabY
theorem cutY1:flY=flY.take 4++.block (Zao (nth flY 4)) (.loop (Zak (nth flY 4))) :: flY.drop 5:=by kernel_rfl
theorem cutY2:flY.drop 5=(flY.drop 5).take 1++.block (Zao (nth flY 6)) (.loop (Zak (nth flY 6))) :: flY.drop 7:=by kernel_rfl
theorem numB_no {n a b:Int} (h:numB n a b=false):n < a \/ b < n:=by
 simp only [numB,Bool.and_eq_false_iff,decide_eq_false_iff_not] at h
 all_goals omega
set_option maxHeartbeats 2000000 in
theorem toldMayD (k:Nat):ToldF 53 (EMayS k) (spec RMayS):=by
 refine Zek FB _ (Zar Tryz.prog 53) Tryz.func53 (by kernel_rfl) shY (by kernel_rfl) ?_ ?_
 ·intro ps qs h
  obtain ⟨s,_,rfl,rfl⟩:=Zaj h
  exact Zbd rfl
 ·intro C ps qs hF h x w hsh
  obtain ⟨⟨fs,ms,ep⟩,hp,rfl,rfl⟩:=Zaj h
  have hfl:fs.length<=1000000:=hp.fl
  have hml:ms.length<=1000000:=hp.ml
  obtain ⟨res,hres⟩:∃ res,res=mayS ⟨fs,ms,ep⟩:=⟨_,rfl⟩
  rw [<- hres]
  show wpL Tryz.prog flY _ x w
  have fin:∀ (b:Bool),mayS ⟨fs,ms,ep⟩=b->∀ qs a1 w1,qs=[pB b]->Zah C shYR qs a1 w1->((Exit.ret=.normal \/ Exit.ret=.ret)/\∃ sh' ps' es,Zah C sh' ps' a1 w1/\resTo Tryz.prog Tryz.f53 sh' (EMayS k)=some es/\evs (fun i=>ps'[i]?) FB es=some [pB res]):=by
   rintro b hb qs a1 w1 rfl h1
   exact ⟨.inr rfl,shYR,_,[SX.var 0],h1,by kernel_rfl,by rw [hres,hb];rfl⟩
  rw [cutY1]
  by_cases h6:fs.length=6
  ·have h6':(fs.length:Int)=6:=by omega
   by_cases h3:ms.length=3
   ·have h3':(ms.length:Int)=3:=by omega
    have gep:=FB8 ep
    cases hep:numB ep 0 1073741824 with
    | false =>
     rw [hep] at gep
     have hM:mayS ⟨fs,ms,ep⟩=false:=by
      rw [<- Bool.not_eq_true,Zgw]
      intro h
      have:=h.ep
      have:=numB_no hep
      simp only at *
      omega
     refine Zag Zad Zac Zct yn2 hsh ?_ (fun qs a1 w1 hq h1=>⟨nofun,fun _=>fin false hM qs a1 w1 (by simp [evs,SX.ev] at hq;exact hq.symm) h1⟩)
     simp [-Zae,Zab,Zaa,Base.ev,SX.ev,evs,Value.oneCell',hF,Zaf,binPV,h6',h3',gep,rnot,b8]
    | true =>
    rw [hep] at gep
    refine Zag Zad Zac Zct yp hsh ?_ ?_
    ·simp [-Zae,Zab,Zaa,Base.ev,SX.ev,evs,Value.oneCell',hF,Zaf,binPV,h6',h3',gep,rnot,b8]
    intro qs a1 w1 hq h1
    refine ⟨fun _=>?_,fun h=>absurd rfl h⟩
    simp [evs,SX.ev] at hq
    subst hq
    refine Zau (fun n a w=>∃ i:Nat,i<=fs.length/\n=fs.length - i/\(∀ j (hj:j < fs.length),j < i->fileN fs j fs[j]=0)/\Zah C shY1 [pI (i:Int),pRow encF fs,pRow encM ms,pI ep] a w) ?_ (n:=fs.length) ⟨0,by omega,by omega,fun j _ hj=>absurd hj (by omega),h1⟩
    rintro n a w ⟨i,hi,rfl,hb,hin⟩
    show wpL Tryz.prog lpY1 _ a w
    rw [<- List.append_nil lpY1]
    by_cases hlt:i < fs.length
    ·obtain ⟨c0,c1,c2⟩:=cellF fs i hlt
     have ix:=Zaq encF fs i 3 3 .i64 rfl hlt (by decide)
     have v3:IntKind.i64.wrap ((i:Int)+1)=(i:Int)+1:=wrapI _ (by omega) (by omega)
     obtain ⟨t1,t2,t3,r1,r2,r3,ra⟩:=cmpE fs[i]
     obtain ⟨hs1,hs2⟩:=hp.fv _ (List.getElem_mem hlt)
     have g1:=FB1 (l:=fs) (s:=fs[i].1) hfl hs1
     have g7:=FB7 hs1
     have g8:=FB8 fs[i].2.1
     have hN:fileN fs i fs[i]=0 ↔ (isE0 fs[i]=true \/ (findN fs fs[i].1=some i/\1<=fs[i].2.1/\fs[i].2.1<=1073741824/\fs[i].2.2.size<=24)):=Zqb
     have bad:fileN fs i fs[i] ≠ 0->mayS ⟨fs,ms,ep⟩=false:=fun h0=>by
      rw [<- Bool.not_eq_true,Zgw]
      intro h
      exact h0 (Zqb.2 (h.fv i hlt))
     have next:fileN fs i fs[i]=0->∀ j (hj:j < fs.length),j < i+1->fileN fs j fs[j]=0:=fun h0 j hj hji=>by
      by_cases hje:j=i
      ·subst hje;exact h0
      ·exact hb j hj (by omega)
     have hok:findN fs fs[i].1=some i->dirs.okN fs[i].1=true:=fun h=>(Zic.1 h).1
     have hnn:findN fs fs[i].1=none->dirs.okN fs[i].1=false:=fun h=>by
      cases ho:dirs.okN fs[i].1 with
      | false=>rfl
      | true =>
       rw [findN,if_pos ho,List.findIdx?_eq_none_iff] at h
       have:=h _ (List.getElem_mem hlt)
       rw [Zs5.2 rfl] at this
       cases this
     have hsm:∀ o,findN fs fs[i].1=some o->dirs.okN fs[i].1=true:=fun o h=>(Zic.1 h).1
     rw [ne_eq,hN] at bad
     rw [hN] at next
     clear hN hb
     cases hE:isE0 fs[i] with
     | true =>
      rw [hE] at ra
      have hnx:=next (.inl hE)
      clear bad next hE hok hnn hsm g1 g7 g8
      generalize fs[i]=f at *
      refine Zag Zad Zac Zct ye hin ?_ (fun qs a1 w1 hq h1=>⟨fun _=>.inl ⟨rfl,fs.length - (i+1),by omega,i+1,by omega,rfl,hnx,by simp [evs,SX.ev,binPV,v3] at hq;subst hq;exact h1⟩,fun h=>absurd rfl h⟩)
      simp [-Zae,Zab,Zaa,Base.ev,SX.ev,evs,Value.oneCell',hF,Zaf,binPV,v3,hlt,ix,c0,c1,c2,r1,r2,r3,ra]
     | false =>
      rw [hE] at ra
      have bad:¬ (findN fs fs[i].1=some i/\1<=fs[i].2.1/\fs[i].2.1<=1073741824/\fs[i].2.2.size<=24)->mayS ⟨fs,ms,ep⟩=false:=fun h=>bad (fun h2=>h2.elim (fun h2=>by rw [hE] at h2;cases h2) h)
      cases hf:findN fs fs[i].1 with
      | none =>
       have hM:=bad (by rw [hf];simp)
       rw [hf] at g1
       rw [hnn hf] at g7
       simp only [ansQ] at g1
       clear bad next hE hok hnn hsm
       generalize fs[i]=f at *
       refine Zag Zad Zac Zct yb0 hin ?_ (fun qs a1 w1 hq h1=>⟨nofun,fun _=>.inr (.inr ⟨rfl,fin false hM qs a1 w1 (by simp [evs,SX.ev] at hq;exact hq.symm) h1⟩)⟩)
       simp [-Zae,Zab,Zaa,Base.ev,SX.ev,evs,Value.oneCell',hF,Zaf,binPV,v3,hlt,ix,c0,c1,c2,r1,r2,r3,ra,g1,g7,rnot,b11,b7]
      | some o =>
       rw [hsm o hf] at g7
       by_cases hoi:o=i
       ·subst hoi
        rw [hf] at g1 bad next
        simp only [ansQ] at g1
        clear hok hnn hsm hE
        by_cases d1:fs[o].2.1 < 1
        ·have hM:=bad (fun h=>by omega)
         clear bad next
         generalize fs[o]=f at *
         refine Zag Zad Zac Zct yb2 hin ?_ (fun qs a1 w1 hq h1=>⟨nofun,fun _=>.inr (.inr ⟨rfl,fin false hM qs a1 w1 (by simp [evs,SX.ev] at hq;exact hq.symm) h1⟩)⟩)
         simp [-Zae,Zab,Zaa,Base.ev,SX.ev,evs,Value.oneCell',hF,Zaf,binPV,v3,hlt,ix,c0,c1,c2,r1,r2,r3,ra,g1,g7,rnot,b11,b7,d1]
        by_cases d2:1073741824 < fs[o].2.1
        ·have hM:=bad (fun h=>by omega)
         have hn:numB fs[o].2.1 0 1073741824=false:=by simp [numB,show ¬ fs[o].2.1<=1073741824 by omega]
         rw [hn] at g8
         clear bad next hn
         generalize fs[o]=f at *
         refine Zag Zad Zac Zct yb3 hin ?_ (fun qs a1 w1 hq h1=>⟨nofun,fun _=>.inr (.inr ⟨rfl,fin false hM qs a1 w1 (by simp [evs,SX.ev] at hq;exact hq.symm) h1⟩)⟩)
         simp [-Zae,Zab,Zaa,Base.ev,SX.ev,evs,Value.oneCell',hF,Zaf,binPV,v3,hlt,ix,c0,c1,c2,r1,r2,r3,ra,g1,g7,g8,rnot,b11,b7,b8,d1]
        have hn:numB fs[o].2.1 0 1073741824=true:=by simp [numB];omega
        rw [hn] at g8
        by_cases d3:24 < fs[o].2.2.size
        ·have hM:=bad (fun h=>by omega)
         have d3':(24:Int) < (fs[o].2.2.size:Int):=by omega
         clear bad next hn
         generalize fs[o]=f at *
         refine Zag Zad Zac Zct yb4 hin ?_ (fun qs a1 w1 hq h1=>⟨nofun,fun _=>.inr (.inr ⟨rfl,fin false hM qs a1 w1 (by simp [evs,SX.ev] at hq;exact hq.symm) h1⟩)⟩)
         simp [-Zae,Zab,Zaa,Base.ev,SX.ev,evs,Value.oneCell',hF,Zaf,binPV,Za6,v3,hlt,ix,c0,c1,c2,r1,r2,r3,ra,g1,g7,g8,rnot,b11,b7,b8,d1,d3,d3']
        ·have hnx:=next (.inr ⟨rfl,by omega,by omega,by omega⟩)
         have d3':¬ (24:Int) < (fs[o].2.2.size:Int):=by omega
         clear bad next hn
         generalize fs[o]=f at *
         refine Zag Zad Zac Zct yg hin ?_ (fun qs a1 w1 hq h1=>⟨fun _=>.inl ⟨rfl,fs.length - (o+1),by omega,o+1,by omega,rfl,hnx,by simp [evs,SX.ev,binPV,v3] at hq;subst hq;exact h1⟩,fun h=>absurd rfl h⟩)
         simp [-Zae,Zab,Zaa,Base.ev,SX.ev,evs,Value.oneCell',hF,Zaf,binPV,Za6,v3,hlt,ix,c0,c1,c2,r1,r2,r3,ra,g1,g7,g8,rnot,b11,b7,b8,d1,d3,d3']
       ·have hM:=bad (fun h=>by rw [hf] at h;exact hoi (Option.some.inj h.1))
        rw [hf] at g1
        simp only [ansQ] at g1
        have hji:¬ ((o+1:Nat):Int)=(i:Int)+1:=by omega
        clear bad next hE hok hnn hsm
        generalize fs[i]=f at *
        refine Zag Zad Zac Zct yb1 hin ?_ (fun qs a1 w1 hq h1=>⟨nofun,fun _=>.inr (.inr ⟨rfl,fin false hM qs a1 w1 (by simp [evs,SX.ev] at hq;exact hq.symm) h1⟩)⟩)
        simp [-Zae,Zab,Zaa,Base.ev,SX.ev,evs,Value.oneCell',hF,Zaf,binPV,v3,hlt,ix,c0,c1,c2,r1,r2,r3,ra,g1,g7,rnot,b11,b7]
        all_goals omega
    ·have hie:i=fs.length:=by omega
     subst hie
     have hfz:Ziv fs 0 fs=0:=(Zid fs fs 0).2 fun j hj=>by rw [Nat.zero_add];exact hb j hj hj
     have hM:mayS ⟨fs,ms,ep⟩=ms.all markB:=by
      unfold mayS mustN
      rw [if_pos ⟨h6,h3⟩,if_pos hfz,hep,Bool.and_true]
      cases ms.all markB <;> rfl
     clear hb hfz
     refine Zag Zad Zac Zct yx hin ?_ ?_
     ·simp [-Zae,Zab,Zaa,Base.ev,SX.ev,evs,Value.oneCell',Zaf,binPV]
     intro qs a1 w1 hq h1
     refine ⟨nofun,fun _=>.inr (.inl ⟨by rw [show Zao (nth flY 4)=0 by kernel_rfl];rfl,?_⟩)⟩
     simp [evs,SX.ev] at hq
     subst hq
     rw [cutY2]
     refine Zag Zad Zac Zct yd h1 ?_ ?_
     ·simp [-Zae,Zab,Zaa,Base.ev,SX.ev,evs,Value.oneCell',Zaf]
     intro qs a1 w1 hq h1
     refine ⟨fun _=>?_,fun h=>absurd rfl h⟩
     simp [evs,SX.ev] at hq
     subst hq
     refine Zau (fun n a w=>∃ i:Nat,i<=ms.length/\n=ms.length - i/\(∀ j (hj:j < ms.length),j < i->markB ms[j]=true)/\Zah C shY2 [pI (i:Int),pRow encF fs,pRow encM ms,pI ep] a w) ?_ (n:=ms.length) ⟨0,by omega,by omega,fun j _ hj=>absurd hj (by omega),h1⟩
     rintro n a w ⟨i,hi,rfl,hb,hin⟩
     show wpL Tryz.prog lpY2 _ a w
     rw [<- List.append_nil lpY2]
     by_cases hlt:i < ms.length
     ·obtain ⟨c0,c1,c2,c3⟩:=cellM4 ms i hlt
      have ix:=Zaq encM ms i 4 4 .i64 rfl hlt (by decide)
      have v3:IntKind.i64.wrap ((i:Int)+1)=(i:Int)+1:=wrapI _ (by omega) (by omega)
      have ga:=FB8 ms[i].1
      have gd:=FB8 ms[i].2.2.2
      have bad:markB ms[i]=false->mayS ⟨fs,ms,ep⟩=false:=fun h0=>by
       rw [hM,<- Bool.not_eq_true,List.all_eq_true]
       intro h
       rw [h _ (List.getElem_mem hlt)] at h0
       cases h0
      have next:markB ms[i]=true->∀ j (hj:j < ms.length),j < i+1->markB ms[j]=true:=fun h0 j hj hji=>by
       by_cases hje:j=i
       ·subst hje;exact h0
       ·exact hb j hj (by omega)
      have hB:markB ms[i]=(numB ms[i].1 0 1073741824 && (numB ms[i].2.1 0 3 && (numB ms[i].2.2.1 0 6 && numB ms[i].2.2.2 0 1073741824))):=rfl
      rw [hB] at bad next
      clear hB hb hM hres
      generalize ms[i]=f at *
      obtain ⟨m1,m2,m3,m4⟩:=f
      simp only at c0 c1 c2 c3 ga gd bad next
      by_cases e1:numB m1 0 1073741824=true
      ·rw [e1] at ga bad next
       by_cases e2:m2 < 0
       ·refine Zag Zad Zac Zct yc1 hin ?_ (fun qs a1 w1 hq h1=>⟨nofun,fun _=>.inr (.inr ⟨rfl,fin false (bad (by simp [numB,show ¬ 0<=m2 by omega])) qs a1 w1 (by simp [evs,SX.ev] at hq;exact hq.symm) h1⟩)⟩)
        simp [-Zae,Zab,Zaa,Base.ev,SX.ev,evs,Value.oneCell',hF,Zaf,binPV,v3,hlt,ix,c0,c1,c2,c3,ga,rnot,b8,e2]
       by_cases e3:3 < m2
       ·refine Zag Zad Zac Zct yc2 hin ?_ (fun qs a1 w1 hq h1=>⟨nofun,fun _=>.inr (.inr ⟨rfl,fin false (bad (by simp [numB,show ¬ m2<=3 by omega])) qs a1 w1 (by simp [evs,SX.ev] at hq;exact hq.symm) h1⟩)⟩)
        simp [-Zae,Zab,Zaa,Base.ev,SX.ev,evs,Value.oneCell',hF,Zaf,binPV,v3,hlt,ix,c0,c1,c2,c3,ga,rnot,b8,e2,e3]
       by_cases e4:m3 < 0
       ·refine Zag Zad Zac Zct yc3 hin ?_ (fun qs a1 w1 hq h1=>⟨nofun,fun _=>.inr (.inr ⟨rfl,fin false (bad (by simp [numB,show ¬ 0<=m3 by omega])) qs a1 w1 (by simp [evs,SX.ev] at hq;exact hq.symm) h1⟩)⟩)
        simp [-Zae,Zab,Zaa,Base.ev,SX.ev,evs,Value.oneCell',hF,Zaf,binPV,v3,hlt,ix,c0,c1,c2,c3,ga,rnot,b8,e2,e3,e4]
       by_cases e5:6 < m3
       ·refine Zag Zad Zac Zct yc4 hin ?_ (fun qs a1 w1 hq h1=>⟨nofun,fun _=>.inr (.inr ⟨rfl,fin false (bad (by simp [numB,show ¬ m3<=6 by omega])) qs a1 w1 (by simp [evs,SX.ev] at hq;exact hq.symm) h1⟩)⟩)
        simp [-Zae,Zab,Zaa,Base.ev,SX.ev,evs,Value.oneCell',hF,Zaf,binPV,v3,hlt,ix,c0,c1,c2,c3,ga,rnot,b8,e2,e3,e4,e5]
       by_cases e6:numB m4 0 1073741824=true
       ·have hnx:=next (by rw [e6];simp [numB];omega)
        rw [e6] at gd
        refine Zag Zad Zac Zct yg2 hin ?_ (fun qs a1 w1 hq h1=>⟨fun _=>.inl ⟨rfl,ms.length - (i+1),by omega,i+1,by omega,rfl,hnx,by simp [evs,SX.ev,binPV,v3] at hq;subst hq;exact h1⟩,fun h=>absurd rfl h⟩)
        simp [-Zae,Zab,Zaa,Base.ev,SX.ev,evs,Value.oneCell',hF,Zaf,binPV,v3,hlt,ix,c0,c1,c2,c3,ga,gd,rnot,b8,e2,e3,e4,e5]
       ·have e6:numB m4 0 1073741824=false:=by simpa using e6
        rw [e6] at gd bad
        refine Zag Zad Zac Zct yc5 hin ?_ (fun qs a1 w1 hq h1=>⟨nofun,fun _=>.inr (.inr ⟨rfl,fin false (bad (by simp)) qs a1 w1 (by simp [evs,SX.ev] at hq;exact hq.symm) h1⟩)⟩)
        simp [-Zae,Zab,Zaa,Base.ev,SX.ev,evs,Value.oneCell',hF,Zaf,binPV,v3,hlt,ix,c0,c1,c2,c3,ga,gd,rnot,b8,e2,e3,e4,e5]
      ·have e1:numB m1 0 1073741824=false:=by simpa using e1
       rw [e1] at ga bad
       refine Zag Zad Zac Zct yc0 hin ?_ (fun qs a1 w1 hq h1=>⟨nofun,fun _=>.inr (.inr ⟨rfl,fin false (bad (by simp)) qs a1 w1 (by simp [evs,SX.ev] at hq;exact hq.symm) h1⟩)⟩)
       simp [-Zae,Zab,Zaa,Base.ev,SX.ev,evs,Value.oneCell',hF,Zaf,binPV,v3,hlt,ix,c0,c1,c2,c3,ga,rnot,b8]
     ·have hie:i=ms.length:=by omega
      subst hie
      have hall:ms.all markB=true:=by
       rw [List.all_eq_true]
       intro m hm
       obtain ⟨j,hj,rfl⟩:=List.getElem_of_mem hm
       exact hb j hj hj
      rw [hall] at hM
      refine Zag Zad Zac Zct yx2 hin ?_ ?_
      ·simp [-Zae,Zab,Zaa,Base.ev,SX.ev,evs,Value.oneCell',Zaf,binPV]
      intro qs a1 w1 hq h1
      refine ⟨nofun,fun _=>.inr (.inl ⟨by rw [show Zao (nth flY 6)=2 by kernel_rfl];rfl,?_⟩)⟩
      simp [evs,SX.ev] at hq
      subst hq
      rw [<- List.append_nil (flY.drop 7)]
      refine Zag Zad Zac Zct yz h1 ?_ (fun qs a1 w1 hq h1=>⟨nofun,fun _=>fin true hM qs a1 w1 (by simp [evs,SX.ev] at hq;exact hq.symm) h1⟩)
      simp [-Zae,Zab,Zaa,Base.ev,SX.ev,evs,Value.oneCell',Zaf]
   ·have h3':¬ (ms.length:Int)=3:=by omega
    have hM:mayS ⟨fs,ms,ep⟩=false:=by
     rw [<- Bool.not_eq_true,Zgw]
     exact fun h=>h3 h.ml
    refine Zag Zad Zac Zct yn1 hsh ?_ (fun qs a1 w1 hq h1=>⟨nofun,fun _=>fin false hM qs a1 w1 (by simp [evs,SX.ev] at hq;exact hq.symm) h1⟩)
    simp [-Zae,Zab,Zaa,Base.ev,SX.ev,evs,Value.oneCell',hF,Zaf,binPV,h6',h3',h3]
  ·have h6':¬ (fs.length:Int)=6:=by omega
   have hM:mayS ⟨fs,ms,ep⟩=false:=by
    rw [<- Bool.not_eq_true,Zgw]
    exact fun h=>h6 h.fl
   refine Zag Zad Zac Zct yn0 hsh ?_ (fun qs a1 w1 hq h1=>⟨nofun,fun _=>fin false hM qs a1 w1 (by simp [evs,SX.ev] at hq;exact hq.symm) h1⟩)
   simp [-Zae,Zab,Zaa,Base.ev,SX.ev,evs,Value.oneCell',hF,Zaf,binPV,h6',h6]
end Go.Proofs.YtefkakjegdjojaaGreat.sta
