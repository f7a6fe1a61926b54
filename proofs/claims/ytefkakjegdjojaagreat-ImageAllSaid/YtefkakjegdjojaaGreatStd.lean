/- What lasts, behind some: told. -/
import Derived.Test.YtefkakjegdjojaaGreatStc
namespace Go.Proofs.YtefkakjegdjojaaGreat.sta
open Go Go.RowKit eng SX Fact fil fileFronts dirs pck may
open fileFronts
open pck hiding F F20 F21
open dirs hiding shR shRl shRR flR lpR cutR f0 f1 f2 f3
open may hiding r1 r2 r3 r4 r5
set_option linter.unusedVariables false
set_option linter.unusedSimpArgs false
set_option maxRecDepth 1000000

theorem writes_n {l:List Nat} {n most:Nat} (ok:OkP l n):OkP l (Zgr l n most).2:=by
 have:∀ c n,OkP l n->OkP l (wseq l c n).2:=fun c=>by
  induction c with
  | zero=>intro n h;exact h
  | succ c ih=>intro n h;exact ih _ (okW h)
 exact this _ _ (pck.okN ok)
theorem ts_step {l:List Nat} {s:StM} {n:Nat} {b:Int} (h:TsOk s b) (hb:0<=b) (ok:OkP l n):TsOk (Zlr l s n).1 (b+3)/\OkP l (Zlr l s n).2:=by
 have o1:=pck.okN ok
 have o2:=pck.okN o1
 have o3:=pck.okN o2
 have o4:=pck.okN o3
 have ha:numV l n 3 < 3:=Zh9 (by omega)
 have hb3:numV l (numN l n) 3 < 3:=Zh9 (by omega)
 have hmem:s.marks.getD (numV l n 3) (0,0,0,0) ∈ s.marks:=by
  have hlt:numV l n 3 < s.marks.length:=by rw [h.ml];omega
  simp only [List.getD,List.getElem?_eq_getElem hlt,Option.getD_some]
  exact List.getElem_mem hlt
 have hm:=h.mv _ hmem
 have fin:∀ (r:StM × Nat),TsOk r.1 (b+3)->OkP l r.2->TsOk (if numV l r.2 9=0 then bootS r.1 else r.1) (b+3)/\OkP l (numN l r.2):=fun r h1 h2=>by
  refine ⟨?_,pck.okN h2⟩
  split
  ·exact ts_boot h1
  ·exact h1
 unfold Zlr
 simp only
 split
 ·exact fin (_,_) (ts_open h (by omega) _ _ _ (by omega) (by omega)) o4
 ·split
  ·exact fin (_,_) (ts_flush h (by omega) _ _ _ _ (by omega) (by omega)) (writes_n o4)
  ·exact fin (_,_) (ts_gone h (by omega) _ _ _ (by omega) (by omega)) o4
def RSt (ps qs:List PV):Prop:=∃ (most n:Nat) (l:List Nat),most<=1000000/\OkP l n/\ps=[pI (most:Int),pRow encU l,pI (n:Int)]/\qs=pSt (stRun l most newS n).1++[pRow encU l,pI ((stRun l most newS n).2:Int)]
theorem fSt:∀ ps q1 q2,RSt ps q1->RSt ps q2->q1=q2:=by
 rintro ps q1 q2 ⟨m,n,l,_,_,rfl,rfl⟩ ⟨m',n',l',_,_,h,rfl⟩
 simp only [List.cons.injEq,PV.v.injEq,Value.int.injEq,true_and,and_true,Int.ofNat_inj] at h
 obtain ⟨rfl,h,rfl⟩:=h
 rw [fil.pRow_inj Zqc h]
theorem s22:ToldP 50 (EWs 22) (FS 22):=toldWs 22
theorem s23:ToldP 48 (ENm 23) (FS 23):=toldNm 23
theorem s31:ToldF 10 (EOpen 31) (FS 31):=toldOpen 31
theorem s32:ToldF 51 (EOpen 32) (FS 32):=toldGone 32
theorem s33:ToldF 49 (Zqr 33) (FS 33):=toldFlush 33
theorem s34:ToldF 52 (EBoot 34) (FS 34):=toldBoot 34
theorem s35:ToldF 45 (ENew 35) (FS 35):=toldNew 35
theorem Zf0:OrcOk Tryz.prog orcS:=Znw (Zai tabS) (Zh7 tabSP)
theorem cutT:flT=flT.take 3++.block (Zao (nth flT 3)) (.loop (Zak (nth flT 3))) :: flT.drop 4:=by kernel_rfl
theorem cutTl:lpT=lpT.take 2++.block (Zao (nth lpT 2)) (blockBody (nth lpT 2)) :: lpT.drop 3:=by kernel_rfl
theorem cutTb:bdT=bdT.take 3++((bdT.drop 3).take 1++bdT.drop 4):=by kernel_rfl
abbrev stT (most i:Nat) (l:List Nat) (n:Nat) (s:StM):List PV:=[pI (most:Int),pI (i:Int),pRow encU l,pI (n:Int),pI 0,pRow encF s.files,pRow encM s.marks,pI s.epoch]
set_option maxHeartbeats 4000000 in
theorem toldSt (k:Nat):ToldP 16 (ESt k) (spec RSt):=by
 refine Zrr FS _ (Zar Tryz.prog 16) Tryz.func16 (by kernel_rfl) shT (by kernel_rfl) ?_ ?_
 ·intro ps qs h
  obtain ⟨m,n,l,_,_,rfl,rfl⟩:=Zaj h
  exact Zbd rfl
 ·intro C ps qs hF h a w hsh
  obtain ⟨most,n0,l,hmo,ok0,rfl,rfl⟩:=Zaj h
  show wpL Tryz.prog flT _ a w
  rw [cutT]
  have e35:FS 35 []=some (pSt newS):=Zal fNew ⟨rfl,rfl⟩
  have hts0:=ts_new
  generalize hres:stRun l most newS n0=res
  generalize newS=sn at e35 hts0 hres
  refine Zag Zad Zac Zf0 preT hsh ?_ ?_
  ·simp [-Zae,Zab,Zaa,Base.ev,SX.ev,evs,Value.oneCell',hF,e35,s35]
  intro qs a1 w1 hq h1
  refine ⟨fun _=>?_,fun h=>absurd rfl h⟩
  simp [evs,SX.ev,hF,e35] at hq
  subst hq
  refine Zau (fun q a w=>∃ i s n,i<=most/\q=most - i/\OkP l n/\TsOk s (3 * (i:Int))/\stRun l (most - i) s n=res/\Zah C shTl (stT most i l n s) a w) ?_ (n:=most) ⟨0,sn,n0,by omega,by omega,ok0,by simpa using hts0,hres,h1⟩
  rintro q a w ⟨i,s,n,hi,rfl,ok,hts,hrun,hin⟩
  show wpL Tryz.prog lpT _ a w
  have post:∀ a w,res=(s,n)->Zah C shTl (stT most i l n s) a w->wpL Tryz.prog (flT.drop 4) (fun e a' w'=>(e=.normal \/ e=.ret)/\∃ sh' ps' es,Zah C sh' ps' a' w'/\Zqm Tryz.prog Tryz.f16 sh' (ESt k)=some es/\evs (fun i=>ps'[i]?) FS es=some (pSt res.1++[pRow encU l,pI (res.2:Int)])) a w:=by
   intro a w hr hin
   rw [<- List.append_nil (flT.drop 4)]
   refine Zag Zad Zac Zf0 postT hin ?_ ?_
   ·simp [-Zae,Zab,Zaa,Base.ev,SX.ev,evs,Value.oneCell',Zaf]
   ·intro qs a2 w2 hq h2
    refine ⟨nofun,fun _=>⟨.inr rfl,shTR,qs,[SX.var 2,SX.var 3,SX.var 4,SX.var 0,SX.var 1],h2,by kernel_rfl,?_⟩⟩
    simp [evs,SX.ev] at hq ⊢
    subst hq
    rw [hr];rfl
  by_cases hlt:i < most
  ·by_cases hover:l.length<=n
   ·have hr:res=(s,n):=by
     rw [<- hrun,show most - i=(most - i - 1)+1 by omega,stRun,if_pos hover]
    rw [<- List.append_nil lpT]
    refine Zag Zad Zac Zf0 ex1 hin ?_ ?_
    ·simp [-Zae,Zab,Zaa,Base.ev,SX.ev,evs,Value.oneCell',Zaf,binPV,hlt,hover]
    ·intro qs a1 w1 hq h1
     refine ⟨nofun,fun _=>.inr (.inl ⟨by rw [show Zao (nth flT 3)=0 by kernel_rfl];rfl,?_⟩)⟩
     simp [evs,SX.ev] at hq
     subst hq
     exact post a1 w1 hr h1
   ·-- a round
    have hnext:=ts_step hts (by omega) ok
    have hrun':stRun l (most - (i+1)) (Zlr l s n).1 (Zlr l s n).2=res:=by
     rw [<- hrun,show most - i=(most - (i+1))+1 by omega,stRun,if_neg hover]
    clear post
    rw [cutTl]
    have hover':n < l.length:=by omega
    refine Zag Zad Zac Zf0 hdT hin ?_ ?_
    ·simp [-Zae,Zab,Zaa,Base.ev,SX.ev,evs,Value.oneCell',Zaf,binPV,hlt,hover,hover']
    intro qs a1 w1 hq h1
    refine ⟨fun _=>?_,fun h=>absurd rfl h⟩
    simp [evs,SX.ev] at hq
    subst hq
    refine block_in ?_
    show wpL Tryz.prog bdT _ a1 w1
    rw [cutTb]
    have o1:=pck.okN ok
    have o2:=pck.okN o1
    have o3:=pck.okN o2
    have o4:=pck.okN o3
    have q1:FS 20 [pI 3,pRow encU l,pI (n:Int)]=some [pI (numV l n 3:Int),pRow encU l,pI (numN l n:Int)]:=FS20 (m:=3) (by omega) (by omega) ok
    have q2:FS 20 [pI 3,pRow encU l,pI (numN l n:Int)]=some [pI (numV l (numN l n) 3:Int),pRow encU l,pI (numN l (numN l n):Int)]:=FS20 (m:=3) (by omega) (by omega) o1
    have q3:FS 20 [pI 6,pRow encU l,pI (numN l (numN l n):Int)]=some [pI (numV l (numN l (numN l n)) 6:Int),pRow encU l,pI (numN l (numN l (numN l n)):Int)]:=FS20 (m:=6) (by omega) (by omega) o2
    have q7:FS 20 [pI 7,pRow encU l,pI (numN l (numN l (numN l n)):Int)]=some [pI (numV l (numN l (numN l (numN l n))) 7:Int),pRow encU l,pI (numN l (numN l (numN l (numN l n))):Int)]:=FS20 (m:=7) (by omega) (by omega) o3
    have q23:FS 23 [pRow encU l,pI (numN l (numN l (numN l n)):Int)]=some [pS (nmt (numV l (numN l (numN l (numN l n))) 10)),pRow encU l,pI (numN l (numN l (numN l (numN l n))):Int)]:=Zal fNm ⟨_,l,o3,rfl,rfl⟩
    have q22:FS 22 [pI 5,pRow encU l,pI (numN l (numN l (numN l (numN l n))):Int)]=some [pRow encW (Zgr l (numN l (numN l (numN l (numN l n)))) 5).1,pRow encU l,pI ((Zgr l (numN l (numN l (numN l (numN l n)))) 5).2:Int)]:=Zal fWs ⟨5,_,l,by omega,o4,rfl,rfl⟩
    have hws:∀ w ∈ (Zgr l (numN l (numN l (numN l (numN l n)))) 5).1,0<=w.1/\w.1 < 10/\w.2.size<=14:=wseq_ok l _ _
    have hwl:(Zgr l (numN l (numN l (numN l (numN l n)))) 5).1.length<=5:=by
     have:=Zh9 (l:=l) (n:=numN l (numN l (numN l (numN l n)))) (m:=6) (by omega)
     simp only [Zgr,wseq_len]
     show numV l _ 6<=5
     omega
    have o5:=writes_n (most:=5) o4
    have a3:numV l n 3 < 3:=Zh9 (by omega)
    have b3:numV l (numN l n) 3 < 3:=Zh9 (by omega)
    have v6:numV l (numN l (numN l n)) 6 < 6:=Zh9 (by omega)
    have f7:numV l (numN l (numN l (numN l n))) 7 < 7:=Zh9 (by omega)
    have hsz:=nmt_size (numV l (numN l (numN l (numN l n))) 10)
    obtain ⟨QD,hQD⟩:∃ QD:Exit->Act->World->Prop,QD=(fun e a' w'=>(e=.normal/\wpL Tryz.prog (lpT.drop 3) (fun e a' w'=>(e=.normal/\∃ n',n' < most - i/\∃ i s n,i<=most/\n'=most - i/\OkP l n/\TsOk s (3 * (i:Int))/\stRun l (most - i) s n=res/\Zah C shTl (stT most i l n s) a' w') \/ (e=.exit (Zao (nth flT 3))/\wpL Tryz.prog (flT.drop 4) (fun e a' w'=>(e=.normal \/ e=.ret)/\∃ sh' ps' es,Zah C sh' ps' a' w'/\Zqm Tryz.prog Tryz.f16 sh' (ESt k)=some es/\evs (fun i=>ps'[i]?) FS es=some (pSt res.1++[pRow encU l,pI (res.2:Int)])) a' w') \/ (e=.ret/\((Exit.ret=.normal \/ Exit.ret=.ret)/\∃ sh' ps' es,Zah C sh' ps' a' w'/\Zqm Tryz.prog Tryz.f16 sh' (ESt k)=some es/\evs (fun i=>ps'[i]?) FS es=some (pSt res.1++[pRow encU l,pI (res.2:Int)])))) a' w')):=⟨_,rfl⟩
    have done:∀ (s':StM) (n':Nat),StOk s'->OkP l n'->(if numV l n' 9=0 then bootS s' else s',numN l n')=Zlr l s n->∀ a w,Zah C shTl (stT most i l n' s') a w->wpL Tryz.prog (bdT.drop 4) QD a w:=by
     intro s' n' ok' on' hst a w hin
     rw [hQD]
     rw [<- hst] at hnext hrun'
     obtain ⟨hts2,ok2⟩:=hnext
     have stp:∀ s2 n2,TsOk s2 (3 * (i:Int)+3)->OkP l n2->stRun l (most - (i+1)) s2 n2=res->∀ a w,Zah C shTl (stT most i l n2 s2) a w->wpL Tryz.prog (lpT.drop 3) (fun e a' w'=>(e=.normal/\∃ n',n' < most - i/\∃ i s n,i<=most/\n'=most - i/\OkP l n/\TsOk s (3 * (i:Int))/\stRun l (most - i) s n=res/\Zah C shTl (stT most i l n s) a' w') \/ (e=.exit (Zao (nth flT 3))/\wpL Tryz.prog (flT.drop 4) (fun e a' w'=>(e=.normal \/ e=.ret)/\∃ sh' ps' es,Zah C sh' ps' a' w'/\Zqm Tryz.prog Tryz.f16 sh' (ESt k)=some es/\evs (fun i=>ps'[i]?) FS es=some (pSt res.1++[pRow encU l,pI (res.2:Int)])) a' w') \/ (e=.ret/\((Exit.ret=.normal \/ Exit.ret=.ret)/\∃ sh' ps' es,Zah C sh' ps' a' w'/\Zqm Tryz.prog Tryz.f16 sh' (ESt k)=some es/\evs (fun i=>ps'[i]?) FS es=some (pSt res.1++[pRow encU l,pI (res.2:Int)])))) a w:=by
      intro s2 n2 h1 h2 h3 a w hin
      rw [<- List.append_nil (lpT.drop 3)]
      have w1:IntKind.i64.wrap ((i:Int)+1)=(i:Int)+1:=wrapI _ (by omega) (by omega)
      refine Zag Zad Zac Zf0 stpT hin ?_ ?_
      ·simp [-Zae,Zab,Zaa,Base.ev,SX.ev,evs,Value.oneCell',binPV,w1]
      ·intro qs a2 w2 hq hx
       refine ⟨fun _=>.inl ⟨rfl,most - (i+1),by omega,i+1,s2,n2,by omega,rfl,h2,by rw [show 3 * ((i+1:Nat):Int)=3 * (i:Int)+3 by omega];exact h1,h3,?_⟩,fun h=>absurd rfl h⟩
       simp [evs,SX.ev,binPV,w1] at hq
       subst hq
       exact hx
     rw [<- List.append_nil (bdT.drop 4)]
     have q9:FS 20 [pI 9,pRow encU l,pI (n':Int)]=some [pI (numV l n' 9:Int),pRow encU l,pI (numN l n':Int)]:=FS20 (m:=9) (by omega) (by omega) on'
     by_cases h9:numV l n' 9=0
     ·rw [if_pos h9] at hts2 hrun'
      rw [h9] at q9
      have q34:FS 34 (pSt s')=some (pSt (bootS s')):=Zal fBoot ⟨s',ok',rfl,rfl⟩
      simp only at hts2 hrun' ok2
      generalize numN l n'=n9 at *
      generalize bootS s'=sb at *
      refine Zag Zad Zac Zf0 bt1 hin ?_ ?_
      ·simp [-Zae,Zab,Zaa,Base.ev,SX.ev,evs,Value.oneCell',hF,binPV,q9,q34,s20,s34]
      ·intro qs a2 w2 hq hx
       refine ⟨fun _=>⟨rfl,stp sb n9 hts2 ok2 hrun' a2 w2 ?_⟩,fun h=>absurd rfl h⟩
       simp [evs,SX.ev,hF,q9,q34] at hq
       subst hq
       exact hx
     ·rw [if_neg h9] at hts2 hrun'
      simp only at hts2 hrun' ok2
      generalize numN l n'=n9 at *
      generalize numV l n' 9=v9 at *
      refine Zag Zad Zac Zf0 bt0 hin ?_ ?_
      ·simp [-Zae,Zab,Zaa,Base.ev,SX.ev,evs,Value.oneCell',hF,binPV,q9,h9,s20]
      ·intro qs a2 w2 hq hx
       refine ⟨fun _=>⟨rfl,stp s' n9 hts2 ok2 hrun' a2 w2 ?_⟩,fun h=>absurd rfl h⟩
       simp [evs,SX.ev,hF,q9] at hq
       subst hq
       exact hx
    clear hnext hrun' hrun hin
    have hstep:Zlr l s n=Zlr l s n:=rfl
    unfold Zlr at hstep done
    clear hstep
    simp only at done
    have hml:=hts.ml
    have hA:numV l n 3 < s.marks.length:=by rw [hml];omega
    have cm:=cellM s.marks (numV l n 3) hA
    have hmv:=hts.mv _ (List.getElem_mem hA)
    have hgd:s.marks.getD (numV l n 3) (0,0,0,0)=s.marks[numV l n 3]:=by simp [List.getD,hA]
    rw [hgd] at done
    have i1:=Zaq encM s.marks (numV l n 3) 4 4 .i64 rfl hA (by decide)
    have i2:=Zaq encM s.marks (numV l n 3) 4 1 .i64 rfl hA (by decide)
    generalize s.marks[numV l n 3].1=sq at *
    generalize Zgr l (numN l (numN l (numN l (numN l n)))) 5=ws at *
    generalize nmt (numV l (numN l (numN l (numN l n))) 10)=nme at *
    generalize numV l (numN l (numN l (numN l n))) 7=f at *
    generalize numN l (numN l (numN l (numN l n)))=n4 at *
    generalize numV l (numN l (numN l n)) 6=v at *
    generalize numN l (numN l (numN l n))=n3 at *
    generalize numN l (numN l n)=n2 at *
    generalize numV l (numN l n) 3=b at *
    generalize numN l n=n1 at *
    generalize numV l n 3=c at *
    have w1:IntKind.i64.wrap (1+(c:Int))=1+(c:Int):=wrapI _ (by omega) (by omega)
    have w2:IntKind.i64.wrap (c:Int)=(c:Int):=wrapI _ (by omega) (by omega)
    have w5:IntKind.i64.wrap (1+(c:Int) - 1)=(c:Int):=by rw [wrapI _ (by omega) (by omega)];omega
    have w3:IntKind.i64.wrap (sq+(b:Int))=sq+(b:Int):=wrapI _ (by omega) (by omega)
    have w4:IntKind.i64.wrap (1+(f:Int))=1+(f:Int):=wrapI _ (by omega) (by omega)
    refine Zag Zad Zac Zf0 pc h1 ?_ ?_
    ·simp [-Zae,Zab,Zaa,Base.ev,SX.ev,evs,Value.oneCell',hF,binPV,q1,q2,q3,i1,i2,cm,w1,w2,w5,w3,s20]
    intro qs a2 w2' hq h2
    refine ⟨fun _=>?_,fun h=>absurd rfl h⟩
    simp [evs,SX.ev,hF,binPV,q1,q2,q3,cm,w1,w2,w5,w3] at hq
    subst hq
    have rm:=r_max (sq+(b:Int)) 1
    have okS:=hts.st
    have hb3:sq+(b:Int)<=3 * (i:Int)+2:=by omega
    generalize sq+(b:Int)=sqb at *
    by_cases hv2:v<=2
    ·simp only [if_pos hv2] at done
     have q31:FS 31 [pRow encF s.files,pRow encM s.marks,pI s.epoch,pI (1+(c:Int)),pI (max sqb 1),pS nme]=some (pSt (openS s (1+(c:Int)) (max sqb 1) nme).1++pMk (openS s (1+(c:Int)) (max sqb 1) nme).2):=Zal fOpen ⟨s,1+(c:Int),max sqb 1,nme,okS,by omega,by omega,by omega,rfl,rfl⟩
     have hs':=(ts_open hts (show 3 * (i:Int)<=3 * (i:Int)+3 by omega) (1+(c:Int)) (max sqb 1) nme (by omega) (by omega)).st
     have dn:=done _ n4 hs' o4 rfl
     generalize (openS s (1+(c:Int)) (max sqb 1) nme).1=s' at *
     generalize (openS s (1+(c:Int)) (max sqb 1) nme).2=m' at *
     have fin:∀ qs a1 w1,qs=stT most i l n4 s'->Zah C shTl qs a1 w1->_:=fun qs a1 w1 hq h=>dn a1 w1 (by rw [<- hq];exact h)
     match v,hv2 with
     | 0,_ =>
      refine Zag Zad Zac Zf0 c0 h2 ?_ (fun qs a1 w1' hq h=>⟨fun _=>Zih _ (fun e a w h=>.inl (by rw [hQD] at h;exact h)) (fin qs a1 w1' (by simp [evs,SX.ev,hF,binPV,q23,q31,rm] at hq;exact hq.symm) h),fun h=>absurd rfl h⟩)
      simp [-Zae,Zab,Zaa,Base.ev,SX.ev,evs,Value.oneCell',hF,binPV,q23,q31,rm,s23,s31]
     | 1,_ =>
      refine Zag Zad Zac Zf0 c1 h2 ?_ (fun qs a1 w1' hq h=>⟨fun _=>Zih _ (fun e a w h=>.inl (by rw [hQD] at h;exact h)) (fin qs a1 w1' (by simp [evs,SX.ev,hF,binPV,q23,q31,rm] at hq;exact hq.symm) h),fun h=>absurd rfl h⟩)
      simp [-Zae,Zab,Zaa,Base.ev,SX.ev,evs,Value.oneCell',hF,binPV,q23,q31,rm,s23,s31]
     | 2,_ =>
      refine Zag Zad Zac Zf0 c2 h2 ?_ (fun qs a1 w1' hq h=>⟨fun _=>Zih _ (fun e a w h=>.inl (by rw [hQD] at h;exact h)) (fin qs a1 w1' (by simp [evs,SX.ev,hF,binPV,q23,q31,rm] at hq;exact hq.symm) h),fun h=>absurd rfl h⟩)
      simp [-Zae,Zab,Zaa,Base.ev,SX.ev,evs,Value.oneCell',hF,binPV,q23,q31,rm,s23,s31]
    ·simp only [if_neg hv2] at done
     by_cases hv4:v<=4
     ·simp only [if_pos hv4] at done
      have q33:FS 33 [pRow encF s.files,pRow encM s.marks,pI s.epoch,pI (1+(c:Int)),pI (max sqb 1),pI (1+(f:Int)),pRow encW ws.1]=some (pSt (Zdp s (1+(c:Int)) (max sqb 1) (1+(f:Int)) ws.1).1++pMk (Zdp s (1+(c:Int)) (max sqb 1) (1+(f:Int)) ws.1).2):=Zal fFlush ⟨s,1+(c:Int),max sqb 1,1+(f:Int),ws.1,okS,by omega,by omega,by omega,by omega,by omega,fun w hw=>by have:=hws w hw;omega,rfl,rfl⟩
      have hs':=(ts_flush hts (show 3 * (i:Int)<=3 * (i:Int)+3 by omega) (1+(c:Int)) (max sqb 1) (1+(f:Int)) ws.1 (by omega) (by omega)).st
      have dn:=done _ ws.2 hs' o5 rfl
      generalize (Zdp s (1+(c:Int)) (max sqb 1) (1+(f:Int)) ws.1).1=s' at *
      generalize (Zdp s (1+(c:Int)) (max sqb 1) (1+(f:Int)) ws.1).2=m' at *
      obtain ⟨ws1,ws2⟩:=ws
      simp only at *
      have fin:∀ qs a1 w1,qs=stT most i l ws2 s'->Zah C shTl qs a1 w1->_:=fun qs a1 w1 hq h=>dn a1 w1 (by rw [<- hq];exact h)
      match v,hv2,hv4 with
      | 3,_,_ =>
       refine Zag Zad Zac Zf0 c3 h2 ?_ (fun qs a1 w1' hq h=>⟨fun _=>Zih _ (fun e a w h=>.inl (by rw [hQD] at h;exact h)) (fin qs a1 w1' (by simp [evs,SX.ev,hF,binPV,q7,w4,q22,q33,rm] at hq;exact hq.symm) h),fun h=>absurd rfl h⟩)
       simp [-Zae,Zab,Zaa,Base.ev,SX.ev,evs,Value.oneCell',hF,binPV,q7,w4,q22,q33,rm,s20,s22,s33]
      | 4,_,_ =>
       refine Zag Zad Zac Zf0 c4 h2 ?_ (fun qs a1 w1' hq h=>⟨fun _=>Zih _ (fun e a w h=>.inl (by rw [hQD] at h;exact h)) (fin qs a1 w1' (by simp [evs,SX.ev,hF,binPV,q7,w4,q22,q33,rm] at hq;exact hq.symm) h),fun h=>absurd rfl h⟩)
       simp [-Zae,Zab,Zaa,Base.ev,SX.ev,evs,Value.oneCell',hF,binPV,q7,w4,q22,q33,rm,s20,s22,s33]
      | 0,h,_=>exact absurd (by omega) h
      | 1,h,_=>exact absurd (by omega) h
      | 2,h,_=>exact absurd (by omega) h
      | v+5,_,h=>omega
     ·simp only [if_neg hv4] at done
      have hv5:v=5:=by omega
      subst hv5
      have q32:FS 32 [pRow encF s.files,pRow encM s.marks,pI s.epoch,pI (1+(c:Int)),pI (max sqb 1),pI (1+(f:Int))]=some (pSt (goneS s (1+(c:Int)) (max sqb 1) (1+(f:Int))).1++pMk (goneS s (1+(c:Int)) (max sqb 1) (1+(f:Int))).2):=Zal fGone ⟨s,1+(c:Int),max sqb 1,1+(f:Int),okS,by omega,by omega,by omega,by omega,rfl,rfl⟩
      have hs':=(ts_gone hts (show 3 * (i:Int)<=3 * (i:Int)+3 by omega) (1+(c:Int)) (max sqb 1) (1+(f:Int)) (by omega) (by omega)).st
      have dn:=done _ n4 hs' o4 rfl
      generalize (goneS s (1+(c:Int)) (max sqb 1) (1+(f:Int))).1=s' at *
      generalize (goneS s (1+(c:Int)) (max sqb 1) (1+(f:Int))).2=m' at *
      have fin:∀ qs a1 w1,qs=stT most i l n4 s'->Zah C shTl qs a1 w1->_:=fun qs a1 w1 hq h=>dn a1 w1 (by rw [<- hq];exact h)
      refine Zag Zad Zac Zf0 c5 h2 ?_ (fun qs a1 w1' hq h=>⟨fun _=>Zih _ (fun e a w h=>.inl (by rw [hQD] at h;exact h)) (fin qs a1 w1' (by simp [evs,SX.ev,hF,binPV,q7,w4,q32,rm] at hq;exact hq.symm) h),fun h=>absurd rfl h⟩)
      simp [-Zae,Zab,Zaa,Base.ev,SX.ev,evs,Value.oneCell',hF,binPV,q7,w4,q32,rm,s20,s32]
  ·have hie:i=most:=by omega
   subst hie
   have hr:res=(s,n):=by rw [<- hrun,Nat.sub_self];rfl
   rw [<- List.append_nil lpT]
   refine Zag Zad Zac Zf0 ex0 hin ?_ ?_
   ·simp [-Zae,Zab,Zaa,Base.ev,SX.ev,evs,Value.oneCell',Zaf,binPV]
   ·intro qs a1 w1 hq h1
    refine ⟨nofun,fun _=>.inr (.inl ⟨by rw [show Zao (nth flT 3)=0 by kernel_rfl];rfl,?_⟩)⟩
    simp [evs,SX.ev] at hq
    subst hq
    exact post a1 w1 hr h1
end Go.Proofs.YtefkakjegdjojaaGreat.sta
