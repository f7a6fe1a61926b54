/- Texts joined: Eng12, Eng13, Eng14, Eng15, Eng16, Eng17, Eng18, Eng19, Eng20, Eng21, Eng22, Eng23, Eng24, Eng25. -/
import Derived.Test.YtcaclmdkhffegaaMrg2
import Derived.Test.YtcaclmdkhffegaaAfter
import Derived.Test.YtcaclmdkhffegaaRowE
section
/- The engine: what it does not name it does not turn. -/
namespace Go.Proofs.Ytcaclmdkhffegaa.eng
open Go
variable {W0 : Base}
set_option linter.unusedVariables false
set_option linter.unusedSimpArgs false

theorem Gk.refl (st:St) (lg:Log):Gk st st lg:=fun _ _=>rfl
theorem Gk.trans {a b c:St} {l1 l2:Log} (h:Gk a b l1) (k:Gk b c l2):Gk a c (l1.or l2):=fun r hr=>by
 rw [k r (fun x=>hr (Zam x)),h r (fun x=>hr (Zaj x))]
theorem Gk.orR {a b:St} {l1 l2:Log} (h:Gk a b l2):Gk a b (l1.or l2):=fun r hr=>h r (fun x=>hr (Zam x))
theorem Gk.orL {a b:St} {l1 l2:Log} (h:Gk a b l1):Gk a b (l1.or l2):=fun r hr=>h r (fun x=>hr (Zaj x))

theorem Zcs {st st':St} {r:Nat} {o:ARoot} (h:st.put r o=some st'):Gk st st' (Log.turns r):=fun k hk=>by
 obtain ⟨hp,_⟩:=put_ok h
 rw [hp]
 have:¬ k=r:=fun e=>hk (by simp only [Log.turns];rw [Zac];exact e)
 simp [Heap.upd,this]
theorem Ze5 {st st':St} {cells:List AV} {elem:TypeId} {esz:Nat} {opn:Bool} {lg:Log} (h:st.alloc cells elem esz opn=some (st',lg)):Gk st st' lg:=by
 simp only [St.alloc,Option.map_eq_some_iff] at h
 obtain ⟨s1,hp,he⟩:=h
 cases he
 intro r hr
 have:=Zcs hp r hr
 exact this
theorem Zdo {st st':St} {r v off:Nat} {ys:List AV} {lg:Log} (h:Zb7 st r v off ys=some (st',lg)):Gk st st' lg:=by
 simp only [Zb7,Option.bind_eq_some_iff] at h
 obtain ⟨o,ho,h⟩:=h
 split at h
 ·simp only [cond_eq_ite] at h
  split at h
  ·simp only [Option.map_eq_some_iff] at h
   obtain ⟨s1,hp,he⟩:=h
   cases he
   exact Zcs hp
  ·cases h
 ·cases h
theorem aStore_gk {P:Program} {st st':St} {t:TypeId} {x y:AV} {lg:Log} (h:Zjv P st t x y=some (st',lg)):Gk st st' lg:=by
 unfold Zjv at h
 split at h
 ·simp only [cond_eq_ite] at h
  split at h
  ·exact Zdo h
  ·cases h
 ·cases h
theorem aNew_gk {st st':St} {elem:TypeId} {y z:AV} {lg:Log} (h:aNew st elem y=some (z,st',lg)):Gk st st' lg:=by
 simp only [aNew,Option.map_eq_some_iff] at h
 obtain ⟨⟨s1,l1⟩,hal,he⟩:=h
 cases he
 exact Ze5 hal
theorem aToBytes_gk {P:Program} {st st':St} {src dst:TypeId} {x y:AV} {lg:Log} (h:Zgb P st src dst x=some (y,st',lg)):Gk st st' lg:=by
 unfold Zgb at h
 split at h
 ·split at h
  ·simp only [cond_eq_ite] at h
   split at h
   ·simp only [Option.map_eq_some_iff] at h
    obtain ⟨⟨s1,l1⟩,hal,he⟩:=h
    cases he
    exact Ze5 hal
   ·cases h
  ·cases h
 ·cases h
theorem aGrow_gk {st st':St} {e:TypeId} {i:TypeInfo} {len cap n:Nat} {olds news:List AV} {y:AV} {lg:Log} (h:aGrow st e i len cap n olds news=some (y,st',lg)):Gk st st' lg:=by
 unfold aGrow at h
 simp only [cond_eq_ite] at h
 split at h
 ·simp only [Option.map_eq_some_iff] at h
  obtain ⟨⟨s1,l1⟩,hal,he⟩:=h
  cases he
  exact Ze5 hal
 ·cases h
theorem aVer_gk {st st':St} {o:ARoot} {r v len n:Nat} {i:TypeInfo} {ys:List AV} {y:AV} {lg:Log} (h:aVer st o r v len n i ys=some (y,st',lg)):Gk st st' lg:=by
 simp only [aVer,Option.map_eq_some_iff] at h
 obtain ⟨s1,hp,he⟩:=h
 cases he
 exact Zcs hp
theorem Zjf {st st':St} {e:TypeId} {i:TypeInfo} {n:Nat} {ys:List AV} {x y:AV} {lg:Log} (h:aOnto st e i n ys x=some (y,st',lg)):Gk st st' lg:=by
 unfold aOnto at h
 split at h
 ·simp only [cond_eq_ite] at h
  split at h
  ·cases h;exact Gk.refl _ _
  ·exact aGrow_gk h
 ·rename_i r v lo sz len cap opn
  cases hsz:Nat.beq sz i.size with
  | false=>simp [hsz] at h
  | true =>
   simp only [hsz,cond_true,Option.bind_eq_some_iff] at h
   obtain ⟨⟨o,nv⟩,hl,h⟩:=h
   cases opn with
   | true =>
    simp only [cond_true] at h
    cases hc:(o.opn && Nat.beq o.esz sz && Nat.blt 0 sz && Nat.ble ((lo+len+n) * sz) nv && Nat.ble cap lo) with
    | true =>
     simp only [hc,cond_true] at h
     cases hn0:Nat.beq n 0 with
     | true=>simp only [hn0,cond_true,Option.some.injEq,Prod.mk.injEq] at h;obtain ⟨_,rfl,_⟩:=h;exact Gk.refl _ _
     | false =>
      simp only [hn0,cond_false,Option.map_eq_some_iff] at h
      obtain ⟨⟨s1,l1⟩,hp,he⟩:=h
      cases he
      exact Zdo hp
    | false =>
     simp only [hc,cond_false] at h
     simp only [cond_eq_ite] at h
     split at h
     ·exact aVer_gk h
     ·cases h
   | false =>
    simp only [cond_false] at h
    cases hc:Nat.ble (len+n) cap with
    | true =>
     simp only [hc,cond_true] at h
     cases hn0:Nat.beq n 0 with
     | true=>simp only [hn0,cond_true,Option.some.injEq,Prod.mk.injEq] at h;obtain ⟨_,rfl,_⟩:=h;exact Gk.refl _ _
     | false =>
      simp only [hn0,cond_false,Option.map_eq_some_iff] at h
      obtain ⟨⟨s1,l1⟩,hp,he⟩:=h
      cases he
      exact Zdo hp
    | false =>
     simp only [hc,cond_false] at h
     simp only [cond_eq_ite] at h
     split at h
     ·simp only [Option.map_eq_some_iff] at h
      obtain ⟨⟨y1,s1,l1⟩,hg,he⟩:=h
      cases he
      exact (aGrow_gk hg).orR
     ·cases h
 ·cases h
theorem aAppend_gk {P:Program} {st st':St} {t tx:TypeId} {s x y:AV} {lg:Log} (h:Zh8 P st t tx s x=some (y,st',lg)):Gk st st' lg:=by
 unfold Zh8 at h
 split at h
 ·simp only [Option.bind_eq_some_iff] at h
  obtain ⟨i,hi,h⟩:=h
  cases hk:Zg4 P tx with
  | true =>
   simp only [hk,cond_true,Option.bind_eq_some_iff,Option.map_eq_some_iff] at h
   obtain ⟨⟨n,ys,l1⟩,h1,⟨y1,s1,l2⟩,h2,he⟩:=h
   cases he
   exact (Zjf h2).orR
  | false =>
   simp only [hk,cond_false] at h
   split at h
   ·simp only [cond_eq_ite] at h
    split at h
    ·exact Zjf h
    ·cases h
   ·cases h
 ·cases h
theorem aCopy_gk {P:Program} {st st':St} {t:TypeId} {d x y:AV} {lg:Log} (h:aCopy P st t d x=some (y,st',lg)):Gk st st' lg:=by
 unfold aCopy at h
 split at h
 ·simp only [Option.bind_eq_some_iff] at h
  obtain ⟨i,hi,h⟩:=h
  split at h
  ·simp only [Option.map_eq_some_iff] at h
   obtain ⟨⟨n,ys,l1⟩,h1,he⟩:=h
   cases he
   exact Gk.refl _ _
  ·rename_i r v lo sz len cap opn
   cases hsz:Nat.beq sz i.size with
   | false=>simp [hsz] at h
   | true =>
    simp only [hsz,cond_true,Option.bind_eq_some_iff] at h
    obtain ⟨⟨n,ys,l1⟩,h1,h⟩:=h
    simp only [cond_eq_ite] at h
    split at h
    ·cases h
    ·simp only [Option.map_eq_some_iff] at h
     obtain ⟨⟨s1,l2⟩,hp,he⟩:=h
     cases he
     exact (Zdo hp).orR
  ·cases h
 ·cases h
theorem aBuildSlice_gk {P:Program} {st st':St} {t:TypeId} {len:Nat} {ps:List (Nat × AV)} {y:AV} {lg:Log} (h:Zdb P st t len ps=some (y,st',lg)):Gk st st' lg:=by
 unfold Zdb at h
 split at h
 ·simp only [Option.bind_eq_some_iff] at h
  obtain ⟨i,hi,h⟩:=h
  split at h
  ·simp only [cond_eq_ite] at h
   split at h
   ·simp only [Option.bind_eq_some_iff,Option.map_eq_some_iff] at h
    obtain ⟨cells,hf,⟨s1,l1⟩,hal,he⟩:=h
    cases he
    exact Ze5 hal
   ·split at h
    ·simp only [Option.map_eq_some_iff] at h
     obtain ⟨⟨s1,l1⟩,hal,he⟩:=h
     cases he
     exact Ze5 hal
    ·cases h
  ·cases h
 ·cases h
theorem aMakeSlice_gk {P:Program} {st st':St} {t:TypeId} {l c y:AV} {lg:Log} (h:Zdz P st t l c=some (y,st',lg)):Gk st st' lg:=by
 unfold Zdz at h
 split at h
 ·simp only [Option.bind_eq_some_iff] at h
  obtain ⟨i,hi,h⟩:=h
  split at h
  ·simp only [cond_eq_ite] at h
   split at h
   ·simp only [Option.map_eq_some_iff] at h
    obtain ⟨⟨s1,l1⟩,hal,he⟩:=h
    cases he
    exact Ze5 hal
   ·cases h
  ·cases h
 ·cases h

theorem Zge {P:Program} {o:Oper} {x:AAct} {st st':St} {n:AN} {lg:Log} (h:aPl P o x st=some (n,st',lg)):Gk st st' lg:=by
 simp only [aPl,Option.map_eq_some_iff] at h
 obtain ⟨r,hr,he⟩:=h
 cases r <;> cases he <;> exact Gk.refl _ _
theorem Zc1 {st st':St} {y:AV} {n:AN} {lg:Log} (h:vno st y=(n,st',lg)):Gk st st' lg:=by cases h;exact Gk.refl _ _
theorem aCall_gk {P:Program} {o:Oper} {c:Call} {x:AAct} {st st':St} {n:AN} {lg:Log} (h:aCall P o c x st=some (n,st',lg)):Gk st st' lg:=by
 unfold aCall at h
 split at h
 ·split at h
  ·simp only [Option.bind_eq_some_iff,Option.map_eq_some_iff] at h
   obtain ⟨p,hp,q,hq,⟨z,s1,l1⟩,hap,he⟩:=h
   cases he
   exact aAppend_gk hap
  ·cases h
 ·split at h
  ·simp only [Option.bind_eq_some_iff,Option.map_eq_some_iff] at h
   obtain ⟨p,hp,q,hq,⟨z,s1,l1⟩,hap,he⟩:=h
   cases he
   exact aCopy_gk hap
  ·cases h
 ·split at h
  ·simp only [Option.bind_eq_some_iff] at h
   obtain ⟨p,hp,h⟩:=h
   split at h
   ·exact Zc1 (Option.some.inj h)
   ·exact Zge h
  ·cases h
 ·split at h
  ·simp only [Option.bind_eq_some_iff] at h
   obtain ⟨p,hp,h⟩:=h
   split at h
   ·exact Zc1 (Option.some.inj h)
   ·exact Zge h
  ·cases h
 ·exact Zge h
 ·cases h
 ·simp only [Option.bind_eq_some_iff] at h
  obtain ⟨fv,hfv,args,hargs,⟨fn,p,q⟩,hfn,h⟩:=h
  dsimp only at h
  split at h
  ·simp only [Option.bind_eq_some_iff] at h
   obtain ⟨d,hd,h⟩:=h
   simp only [cond_eq_ite] at h
   split at h
   ·cases h;exact Gk.refl _ _
   ·exact Zge h
  ·cases h

theorem Zil {P:Program} {o:Oper} {x:AAct} {st st':St} {n:AN} {lg:Log} (h:aop P o x st=some (n,st',lg)):Gk st st' lg:=by
 unfold aop at h
 split at h
 case h_1=>simp only [Option.map_eq_some_iff] at h;obtain ⟨z,hz,he⟩:=h;exact Zc1 he
 case h_2=>simp only [Option.map_eq_some_iff] at h;obtain ⟨z,hz,he⟩:=h;exact Zc1 he
 case h_3 =>
  simp only [Option.bind_eq_some_iff] at h
  obtain ⟨cv,hcv,h⟩:=h
  split at h
  ·simp only [Option.map_eq_some_iff] at h;obtain ⟨z,hz,he⟩:=h;exact Zc1 he
  ·simp only [Option.map_eq_some_iff] at h;obtain ⟨z,hz,he⟩:=h;exact Zc1 he
  ·cases h
 case h_4 =>
  simp only [Option.bind_eq_some_iff,Option.map_eq_some_iff] at h
  obtain ⟨i,hi,z,hz,⟨y,s1,l1⟩,hnew,he⟩:=h
  cases he;exact aNew_gk hnew
 case h_5 =>
  simp only [Option.bind_eq_some_iff,Option.map_eq_some_iff] at h
  obtain ⟨q,hq,⟨y,s1,l1⟩,hnew,he⟩:=h
  cases he;exact aNew_gk hnew
 case h_6 =>
  simp only [Option.bind_eq_some_iff,Option.map_eq_some_iff] at h
  obtain ⟨qs,hqs,y,hy,he⟩:=h;exact Zc1 he
 case h_7 =>
  simp only [Option.bind_eq_some_iff,Option.map_eq_some_iff] at h
  obtain ⟨qs,hqs,⟨y,s1,l1⟩,hy,he⟩:=h
  cases he;exact aBuildSlice_gk hy
 case h_8 =>
  simp only [Option.bind_eq_some_iff,Option.map_eq_some_iff] at h
  obtain ⟨q,hq,⟨z,l1⟩,hl,he⟩:=h
  cases he;exact Gk.refl _ _
 case h_9 =>
  simp only [Option.bind_eq_some_iff,Option.map_eq_some_iff] at h
  obtain ⟨p,hp,q,hq,⟨s1,l1⟩,hs,he⟩:=h
  cases he;exact aStore_gk hs
 case h_10=>simp only [Option.bind_eq_some_iff,Option.map_eq_some_iff] at h;obtain ⟨q,hq,z,hz,he⟩:=h;exact Zc1 he
 case h_11=>simp only [Option.bind_eq_some_iff,Option.map_eq_some_iff] at h;obtain ⟨q,hq,z,hz,he⟩:=h;exact Zc1 he
 case h_12 =>
  simp only [Option.bind_eq_some_iff] at h
  obtain ⟨q,hq,j,hj,h⟩:=h
  split at h
  ·exact Zc1 (Option.some.inj h)
  ·simp only [cond_eq_ite] at h
   split at h
   ·simp only [Option.some.injEq,Prod.mk.injEq] at h
    obtain ⟨rfl,rfl,rfl⟩:=h
    exact Gk.refl _ _
   ·exact Zge h
 case h_13=>simp only [Option.bind_eq_some_iff,Option.map_eq_some_iff] at h;obtain ⟨q,hq,z,hz,he⟩:=h;exact Zc1 he
 case h_14 =>
  simp only [Option.bind_eq_some_iff] at h
  obtain ⟨q,hq,l,hl,hh,hhh,k,hk,h⟩:=h
  split at h
  ·cases h;exact Gk.refl _ _
  ·exact Zge h
 case h_15=>simp only [Option.bind_eq_some_iff,Option.map_eq_some_iff] at h;obtain ⟨p,hp,q,hq,he⟩:=h;exact Zc1 he
 case h_16 =>
  simp only [Option.bind_eq_some_iff,cond_eq_ite] at h
  obtain ⟨p,hp,q,hq,h⟩:=h
  split at h
  ·simp only [Option.some.injEq,Prod.mk.injEq] at h
   obtain ⟨rfl,rfl,rfl⟩:=h
   exact Gk.refl _ _
  ·simp only [Option.map_eq_some_iff] at h
   obtain ⟨⟨y,s1,l1⟩,hy,he⟩:=h
   cases he;exact aMakeSlice_gk hy
 case h_17 =>
  simp only [Option.bind_eq_some_iff] at h
  obtain ⟨q,hq,h⟩:=h
  simp only [cond_eq_ite] at h
  split at h
  ·cases h
  ·exact Zc1 (Option.some.inj h)
 case h_18 =>
  simp only [Option.bind_eq_some_iff] at h
  obtain ⟨q,hq,h⟩:=h
  split at h
  ·cases h;exact Gk.refl _ _
  ·split at h
   ·rename_i z s1 lg' hz
    cases h
    exact aToBytes_gk hz
   ·exact Zge h
 case h_19 =>
  simp only [Option.bind_eq_some_iff] at h
  obtain ⟨q,hq,h⟩:=h
  split at h
  ·exact Zc1 (Option.some.inj h)
  ·exact Zc1 (Option.some.inj h)
  ·exact Zge h
 case h_20=>exact aCall_gk h
 case h_21 =>
  split at h
  ·simp only [Option.bind_eq_some_iff,Option.map_eq_some_iff] at h
   obtain ⟨fv,hfv,args,hargs,⟨fn,p,q⟩,hfn,he⟩:=h
   cases he;exact Gk.refl _ _
  ·cases h
 case h_22=>exact Zge h

def Zio (C:Code->AAct->St->CR):Prop:=∀ c x st e x' st' lg,C c x st=some (e,x',st',lg)->Gk st st' lg
theorem Zkg {st:St} {es:List (SX × Bool)} {lg:Log} (hlt:st.next+es.length < 16777215) (h:∀ r,bit (Zat st.next es.length) r->bit lg.T r):Gk st (st.dats es) lg:=by
 intro q hq
 show (Za4 es st.next st.heap).get q=_
 rw [Zbc _ _ _ _ hlt,if_neg]
 intro hq2
 exact hq (h q ((Zaz _ _ _).2 hq2))
theorem Zgr {P:Program} {o:Oper} {x:AAct} {st st':St} {n:AN} {lg:Log} (h:aopS P o x st=some (n,st',lg)):Gk st st' lg:=by
 unfold aopS at h
 split at h
 ·rename_i r hr
  cases h
  unfold aLenD at hr
  split at hr
  ·split at hr
   ·simp only [Option.bind_eq_some_iff] at hr
    obtain ⟨q,hq,hr⟩:=hr
    split at hr
    ·simp only [Option.map_eq_some_iff] at hr
     obtain ⟨e,he,hr⟩:=hr
     cases hr
     exact Gk.refl _ _
    ·cases hr
   ·cases hr
  ·cases hr
 ·split at h
  ·unfold aIdxD at h
   split at h
   ·simp only [Option.bind_eq_some_iff] at h
    obtain ⟨qv,hq,jv,hj,h⟩:=h
    split at h
    ·split at h
     ·simp only [Option.bind_eq_some_iff] at h
      obtain ⟨sz,hs,ie,hie,h⟩:=h
      simp only [cond_eq_ite] at h
      split at h
      ·simp only [Option.map_eq_some_iff] at h
       obtain ⟨e,he,h⟩:=h
       cases h
       exact Gk.refl _ _
      ·cases h
     ·cases h
    ·split at h
     ·split at h
      ·simp only [Option.map_eq_some_iff] at h
       obtain ⟨y,hy,h⟩:=h
       cases h
       exact fun _ _=>rfl
      ·cases h
     ·cases h
   ·cases h
  ·simp only [Option.bind_eq_some_iff,Option.map_eq_some_iff] at h
   obtain ⟨q,hq,⟨y,s1,l1⟩,hl,he⟩:=h
   cases he
   obtain ⟨es,h1,h2,h3⟩:=aLoadD_shape hl
   rw [h1]
   exact Zkg h2 (fun r hr=>by rw [h3];exact hr)
  ·simp only [aSym,Option.map_eq_some_iff] at h
   obtain ⟨e,he,h⟩:=h
   cases h
   exact Gk.refl _ _
theorem Zh2 {st st':St} {e:SX} {elem:TypeId} {esz:Nat} {y:AV} {lg:Log} (h:st.allocS e elem esz=some (y,st',lg)):Gk st st' lg:=by
 simp only [St.allocS,Option.map_eq_some_iff] at h
 obtain ⟨s1,hp,he⟩:=h
 cases he
 intro r hr
 have:=Zcs hp r hr
 exact this
theorem aAppendS_gk {P:Program} {st st':St} {t tx:TypeId} {s x y:AV} {lg:Log} (hap:Ze6 P st t tx s x=some (y,st',lg)):Gk st st' lg:=by
 unfold Ze6 at hap
 split at hap
 ·simp only [Option.bind_eq_some_iff] at hap
  obtain ⟨i,hi,⟨eo,el,esz⟩,hl,hap⟩:=hap
  simp only [cond_eq_ite] at hap
  split at hap
  ·simp only [Option.bind_eq_some_iff,Option.map_eq_some_iff] at hap
   obtain ⟨⟨en,l1⟩,hsr,s1,hp,he⟩:=hap
   cases he
   exact ((Zcs hp).orL).orR
  ·cases hap
 ·cases hap
theorem Zis {st st':St} {x y:AV} {lg:Log} (h:symOf st x=some (y,st',lg)):Gk st st' lg:=by
 unfold symOf at h
 split at h
 ·rename_i r v lo sz len cap opn
  simp only [Option.bind_eq_some_iff] at h
  obtain ⟨o,ho,h⟩:=h
  split at h
  ·rename_i v' n rest hvers
   simp only [Option.bind_eq_some_iff] at h
   obtain ⟨es,hes,h⟩:=h
   have key:∀ bb:Bool,cond bb ((st.put r (Zai (.lit len es) o.elem sz (v+1))).map fun st'=>(AV.sliceS r (v+1) c0 (.len (.lit len es)) sz,st',Log.turns r)) none=some (y,st',lg)->Gk st st' lg:=by
    intro bb hb
    cases bb with
    | false=>cases hb
    | true =>
     simp only [cond_true,Option.map_eq_some_iff] at hb
     obtain ⟨s1,hp,he⟩:=hb
     cases he
     exact Zcs hp
   exact key _ h
  ·cases h
 ·cases h
theorem aAppendN_gk {P:Program} {st st':St} {t tx:TypeId} {x y:AV} {lg:Log} (h:Zgg P st t tx x=some (y,st',lg)):Gk st st' lg:=by
 unfold Zgg at h
 split at h
 ·simp only [Option.bind_eq_some_iff] at h
  obtain ⟨i,hi,h⟩:=h
  cases hc:(Zca i && Nat.blt 0 i.size && Nat.ble i.bytes 16384) with
  | false=>simp [hc] at h
  | true =>
   simp only [hc,cond_true,Option.bind_eq_some_iff] at h
   obtain ⟨⟨en,l1⟩,hsr,⟨b,st1,l2⟩,hnw,h⟩:=h
   obtain ⟨e1,e2,e3⟩:=isNew_ok hnw
   cases b with
   | true =>
    simp only [cond_true,Option.map_eq_some_iff] at h
    obtain ⟨⟨y1,s1,l3⟩,hal,he⟩:=h
    cases he
    have:=((Zh2 hal).orL (l2:=Log.says (.upto (.len en) 4294967296))).orR (l1:=l1.or l2)
    intro r hr
    rw [this r hr,e1]
   | false =>
    simp only [cond_false,Option.some.injEq,Prod.mk.injEq] at h
    obtain ⟨rfl,rfl,rfl⟩:=h
    intro r hr
    rw [e1]
 ·cases h
theorem aAppendO_gk {P:Program} {st st':St} {t tx:TypeId} {s x y:AV} {lg:Log} (h:Zgf P st t tx s x=some (y,st',lg)):Gk st st' lg:=by
 unfold Zgf at h
 split at h
 ·exact aAppendN_gk h
 ·simp only [Option.bind_eq_some_iff,Option.map_eq_some_iff] at h
  obtain ⟨⟨y1,st1,l1⟩,h1,⟨z,st2,l2⟩,h2,he⟩:=h
  cases he
  exact (Zis h1).trans (aAppendS_gk h2)
 ·exact aAppendS_gk h
theorem aStrO_gk {P:Program} {s d:TypeId} {x:AV} {st st':St} {z:AV} {lg:Log} (hz:aStrO P st s d x=some (z,st',lg)):Gk st st' lg:=by
 unfold aStrO at hz
 split at hz
 ·simp only [Option.some.injEq,Prod.mk.injEq] at hz
  obtain ⟨rfl,rfl,rfl⟩:=hz
  exact Gk.refl _ _
 ·simp only [Option.bind_eq_some_iff,Option.map_eq_some_iff] at hz
  obtain ⟨⟨x',s1',l1⟩,hsy,⟨y',l2⟩,hs,he⟩:=hz
  cases he
  exact (Zis hsy).orL
theorem aBytesS_gk {P:Program} {s d:TypeId} {x:AV} {st st':St} {z:AV} {lg:Log} (hz:Zh6 P st s d x=some (z,st',lg)):Gk st st' lg:=by
 unfold Zh6 at hz
 split at hz
 ·split at hz
  ·simp only [Option.map_eq_some_iff] at hz
   obtain ⟨⟨y2,s2,l2⟩,hal,he⟩:=hz
   cases he
   exact (Zh2 hal).orL
  ·cases hz
 ·cases hz
theorem aCutS_gk {P:Program} {t:TypeId} {x:AV} {lo hi mx:Option AV} {st st':St} {z:AV} {lg:Log} (hz:aCutS P st t x lo hi mx=some (z,st',lg)):Gk st st' lg:=by
 unfold aCutS at hz
 split at hz
 ·simp only [Option.bind_eq_some_iff] at hz
  obtain ⟨⟨eo,el,esz⟩,hl,hz⟩:=hz
  simp only [cond_eq_ite] at hz
  split at hz
  ·simp only [Option.map_eq_some_iff] at hz
   obtain ⟨s2,hp,he⟩:=hz
   cases he
   exact Zcs hp
  ·cases hz
 ·cases hz
theorem aPartD_gk {P:Program} {t:TypeId} {x:AV} {lo hi mx:Option AV} {st st':St} {z:AV} {lg:Log} (hz:Zjw P st t x lo hi mx=some (z,st',lg)):Gk st st' lg:=by
 unfold Zjw at hz
 split at hz
 ·simp only [Option.bind_eq_some_iff] at hz
  obtain ⟨sz,hs,oo,hoo,e,hr,le,hle,he,hhe,hz⟩:=hz
  simp only [cond_eq_ite,Bool.and_eq_true,Nat.blt_eq] at hz
  split at hz
  ·rename_i hc
   cases hz
   exact Zkg (by simp;omega) (fun r hr=>hr)
  ·cases hz
 ·cases hz
theorem aCopyS_gk {P:Program} {t tx:TypeId} {d x:AV} {st st':St} {z:AV} {lg:Log} (hap:Zjy P st t tx d x=some (z,st',lg)):Gk st st' lg:=by
 unfold Zjy at hap
 split at hap
 ·simp only [Option.bind_eq_some_iff] at hap
  obtain ⟨i,hi,⟨eo,el,esz⟩,hl,s,hsx,hap⟩:=hap
  simp only [cond_eq_ite] at hap
  split at hap
  ·simp only [Option.map_eq_some_iff] at hap
   obtain ⟨s1,hp,he⟩:=hap
   cases he
   exact (Zcs hp).orL
  ·cases hap
 ·cases hap
theorem aBytesD_gk {P:Program} {s d:TypeId} {x:AV} {st st':St} {z:AV} {lg:Log} (hb:Zh7 P st s d x=some (z,st',lg)):Gk st st' lg:=by
 unfold Zh7 at hb
 split at hb
 ·split at hb
  ·simp only [cond_eq_ite,Nat.blt_eq] at hb
   split at hb
   ·rename_i hlt
    simp only [Option.some.injEq,Prod.mk.injEq] at hb
    obtain ⟨rfl,rfl,rfl⟩:=hb
    exact Zkg (by simpa using hlt) (fun r hr=>hr)
   ·cases hb
  ·cases hb
 ·cases hb
theorem Zgt {P:Program} {o:Oper} {x:AAct} {st st':St} {n:AN} {lg:Log} (h:aopO P o x st=some (n,st',lg)):Gk st st' lg:=by
 unfold aopO at h
 split at h
 ·simp only [Option.bind_eq_some_iff,Option.map_eq_some_iff] at h
  obtain ⟨q,hq,⟨z,l1⟩,hl,he⟩:=h
  cases he
  exact Gk.refl _ _
 ·simp only [Option.bind_eq_some_iff,Option.map_eq_some_iff] at h
  obtain ⟨p,hp,q,hq,⟨s1,l1⟩,hs,he⟩:=h
  cases he
  unfold Zjd at hs
  split at hs
  ·simp only [Option.bind_eq_some_iff] at hs
   obtain ⟨⟨e,el,esz⟩,hl,es,hes,hs⟩:=hs
   simp only [cond_eq_ite] at hs
   split at hs
   ·simp only [Option.map_eq_some_iff] at hs
    obtain ⟨s1,hp,he⟩:=hs
    cases he
    exact (Zcs hp).orL
   ·cases hs
  ·cases hs
 ·simp only [Option.bind_eq_some_iff,Option.map_eq_some_iff] at h
  obtain ⟨q,hq,j,hj,⟨z,l1⟩,hs,he⟩:=h
  cases he
  exact Gk.refl _ _
 ·simp only [Option.bind_eq_some_iff,Option.map_eq_some_iff] at h
  obtain ⟨p,hp,q,hq,⟨y,s1,l1⟩,hy,he⟩:=h
  cases he
  unfold Zk3 at hy
  split at hy
  ·simp only [Option.bind_eq_some_iff] at hy
   obtain ⟨i,hi,z,hz,hy⟩:=hy
   simp only [cond_eq_ite] at hy
   split at hy
   ·simp only [Option.map_eq_some_iff] at hy
    obtain ⟨⟨y2,s2,l2⟩,hal,he⟩:=hy
    cases he
    exact (Zh2 hal).orL
   ·cases hy
  ·cases hy
 ·simp only [Option.bind_eq_some_iff] at h
  obtain ⟨q,hq,h⟩:=h
  split at h
  ·rename_i z s1 lg' hz
   simp only [Option.some.injEq,Prod.mk.injEq] at h
   obtain ⟨rfl,rfl,rfl⟩:=h
   exact aStrO_gk hz
  ·simp only [Option.map_eq_some_iff] at h
   obtain ⟨⟨z,s1,l1⟩,hz,he⟩:=h
   cases he
   exact aBytesS_gk hz
 ·simp only [Option.bind_eq_some_iff] at h
  obtain ⟨q,hq,l,hl,hh,hhh,k,hk,h⟩:=h
  split at h
  ·rename_i z s1 lg' hz
   simp only [Option.some.injEq,Prod.mk.injEq] at h
   obtain ⟨rfl,rfl,rfl⟩:=h
   exact aCutS_gk hz
  split at h
  ·simp only [Option.some.injEq,Prod.mk.injEq] at h
   obtain ⟨rfl,rfl,rfl⟩:=h
   exact Gk.refl _ _
  ·simp only [Option.map_eq_some_iff] at h
   obtain ⟨⟨z,s1,l1⟩,hz,he⟩:=h
   cases he
   exact aPartD_gk hz
 ·unfold aopC at h
  split at h
  ·split at h
   ·simp only [Option.bind_eq_some_iff,Option.map_eq_some_iff] at h
    obtain ⟨p,hp,q,hq,⟨z,s1,l1⟩,hap,he⟩:=h
    cases he
    exact aAppendO_gk hap
   ·cases h
  ·split at h
   ·simp only [Option.bind_eq_some_iff,Option.map_eq_some_iff] at h
    obtain ⟨p,hp,q,hq,⟨z,s1,l1⟩,hap,he⟩:=h
    cases he
    exact aCopyS_gk hap
   ·cases h
  ·split at h
   ·simp only [Option.bind_eq_some_iff] at h
    obtain ⟨p,hp,h⟩:=h
    split at h
    ·simp only [Option.some.injEq,Prod.mk.injEq] at h
     obtain ⟨rfl,rfl,rfl⟩:=h
     exact Gk.refl _ _
    ·cases h
   ·cases h
  ·split at h
   ·simp only [Option.bind_eq_some_iff,Option.map_eq_some_iff] at h
    obtain ⟨p,hp,q,hq,ea,hea,eb,heb,he⟩:=h
    cases he
    exact Gk.refl _ _
   ·cases h
  ·split at h
   ·simp only [Option.bind_eq_some_iff,Option.map_eq_some_iff] at h
    obtain ⟨p,hp,q,hq,ea,hea,eb,heb,he⟩:=h
    cases he
    exact Gk.refl _ _
   ·cases h
  ·cases h
 ·simp only [Option.bind_eq_some_iff] at h
  obtain ⟨q,hq,h⟩:=h
  split at h
  ·simp only [Option.some.injEq,Prod.mk.injEq] at h
   obtain ⟨rfl,rfl,rfl⟩:=h
   exact Gk.refl _ _
  ·cases h
 ·cases h
theorem Zbg {P:Program} {o:Oper} {st st1 st':St} {n n1:AN} {lg l1:Log} (h:decB P o (n1,st1,l1)=some (n,st',lg)) (hg:Gk st st1 l1):Gk st st' lg:=by
 unfold decB at h
 split at h
 ·rename_i e s2 l2 he
  cases he
  simp only [cond_eq_ite] at h
  split at h
  ·split at h
   ·simp only [Option.some.injEq,Prod.mk.injEq] at h
    obtain ⟨rfl,rfl,rfl⟩:=h
    exact hg.orL
   ·cases h
  ·simp only [Option.some.injEq,Prod.mk.injEq] at h
   obtain ⟨rfl,rfl,rfl⟩:=h
   exact hg
 ·simp only [Option.some.injEq] at h
  cases h
  exact hg
theorem aopI_gk {P:Program} {o:Oper} {x:AAct} {st st':St} {n:AN} {lg:Log} (h:aopI P o x st=some (n,st',lg)):Gk st st' lg:=by
 unfold aopI at h
 split at h
 ·simp only [Option.bind_eq_some_iff,Option.map_eq_some_iff] at h
  obtain ⟨q,hq,j,hj,⟨q',s1,l1⟩,hsy,⟨z,l2⟩,hs,he⟩:=h
  cases he
  exact (Zis hsy).orL
 ·cases h
theorem aopOut_gk {P:Program} {o:Oper} {x:AAct} {st st':St} {n:AN} {lg:Log} (h:Zim P o x st=some (n,st',lg)):Gk st st' lg:=by
 obtain ⟨rest,rfl⟩:=aopOut_st h
 exact fun r _=>rfl
theorem aopM_gk {P:Program} {o:Oper} {x:AAct} {st st':St} {n:AN} {lg:Log} (h:aopM P o x st=some (n,st',lg)):Gk st st' lg:=by
 unfold aopM at h
 split at h
 ·simp only [Option.map_eq_some_iff] at h
  obtain ⟨⟨y,s1,l1⟩,hy,he⟩:=h
  cases he
  simp only [St.allocM,Option.map_eq_some_iff] at hy
  obtain ⟨s2,hp,he⟩:=hy
  cases he
  exact fun r hr=>(Zcs hp r hr)
 ·simp only [Option.bind_eq_some_iff] at h
  obtain ⟨q,hq,kk,hk,h⟩:=h
  split at h
  ·simp only [Option.bind_eq_some_iff,Option.map_eq_some_iff] at h
   obtain ⟨⟨e,t0⟩,hl,z,hz,ks,hks,he⟩:=h
   cases he
   exact Gk.refl _ _
  ·cases h
 ·simp only [Option.bind_eq_some_iff] at h
  obtain ⟨q,hq,kk,hk,vv,hvv,h⟩:=h
  split at h
  ·simp only [Option.bind_eq_some_iff,cond_eq_ite] at h
   obtain ⟨⟨e,t0⟩,hl,z,hz,ks,hks,vs,hvs,h⟩:=h
   split at h
   ·simp only [Option.map_eq_some_iff] at h
    obtain ⟨s1,hp,he⟩:=h
    cases he
    exact (Zcs hp).orL
   ·cases h
  ·cases h
 ·unfold aopMC at h
  split at h
  ·split at h
   ·simp only [Option.bind_eq_some_iff] at h
    obtain ⟨q,hq,kk,hk,h⟩:=h
    split at h
    ·simp only [Option.bind_eq_some_iff,Option.map_eq_some_iff] at h
     obtain ⟨⟨e,t0⟩,hl,z,hz,ks,hks,s1,hp,he⟩:=h
     cases he
     exact (Zcs hp).orL
    ·cases h
   ·cases h
  ·split at h
   ·simp only [Option.bind_eq_some_iff] at h
    obtain ⟨q,hq,z,hz,h⟩:=h
    split at h
    ·simp only [Option.map_eq_some_iff] at h
     obtain ⟨⟨e,t0⟩,hl,he⟩:=h
     cases he
     exact Gk.refl _ _
    ·cases h
   ·cases h
  ·cases h
 ·cases h
theorem aopMI_gk {P:Program} {o:Oper} {x:AAct} {st st':St} {n:AN} {lg:Log} (h:aopMI P o x st=some (n,st',lg)):Gk st st' lg:=by
 unfold aopMI at h
 split at h
 ·simp only [Option.bind_eq_some_iff,Option.map_eq_some_iff] at h
  obtain ⟨_,_,⟨y,s1,l1⟩,hy,he⟩:=h
  cases he
  simp only [St.allocI,Option.map_eq_some_iff] at hy
  obtain ⟨s2,hp,he⟩:=hy
  cases he
  exact fun r hr=>(Zcs hp r hr)
 ·simp only [Option.bind_eq_some_iff] at h
  obtain ⟨q,hq,kk,hk,h⟩:=h
  split at h
  ·simp only [Option.bind_eq_some_iff,Option.map_eq_some_iff] at h
   obtain ⟨⟨e,t0⟩,hl,z,hz,ks,hks,he⟩:=h
   cases he
   exact Gk.refl _ _
  ·cases h
 ·simp only [Option.bind_eq_some_iff] at h
  obtain ⟨q,hq,kk,hk,vv,hvv,h⟩:=h
  split at h
  ·simp only [Option.bind_eq_some_iff,cond_eq_ite] at h
   obtain ⟨⟨e,t0⟩,hl,z,hz,ks,hks,s0,hs0,s1',hs1,h⟩:=h
   split at h
   ·simp only [Option.map_eq_some_iff] at h
    obtain ⟨s1,hp,he⟩:=h
    cases he
    exact (Zcs hp).orL
   ·cases h
  ·cases h
 ·unfold aopIC at h
  split at h
  ·split at h
   ·simp only [Option.bind_eq_some_iff] at h
    obtain ⟨q,hq,kk,hk,h⟩:=h
    split at h
    ·simp only [Option.bind_eq_some_iff,Option.map_eq_some_iff] at h
     obtain ⟨⟨e,t0⟩,hl,z,hz,ks,hks,s1,hp,he⟩:=h
     cases he
     exact (Zcs hp).orL
    ·cases h
   ·cases h
  ·split at h
   ·simp only [Option.bind_eq_some_iff] at h
    obtain ⟨q,hq,z,hz,h⟩:=h
    split at h
    ·simp only [Option.map_eq_some_iff] at h
     obtain ⟨⟨e,t0⟩,hl,he⟩:=h
     cases he
     exact Gk.refl _ _
    ·cases h
   ·cases h
  ·cases h
 ·cases h
theorem aLz_gk {P:Program} {o:Oper} {x:AAct} {st st':St} {n:AN} {lg:Log} (h:aLz P o x st=some (n,st',lg)):Gk st st' lg:=by
 simp only [aLz,Option.map_eq_some_iff] at h
 obtain ⟨e,he,h⟩:=h
 cases h
 exact Gk.refl _ _
theorem aAppT_gk {P:Program} {o:Oper} {x:AAct} {st st':St} {n:AN} {lg:Log} (h:aAppT P o x st=some (n,st',lg)):Gk st st' lg:=by
 unfold aAppT at h
 split at h
 ·split at h
  ·split at h
   ·simp only [Option.bind_eq_some_iff] at h
    obtain ⟨p,hp,q,hq,h⟩:=h
    split at h
    ·simp only [Option.bind_eq_some_iff,Option.map_eq_some_iff] at h
     obtain ⟨i,hi,⟨k,ys,l1⟩,hs,⟨z,s1,l2⟩,hon,he⟩:=h
     cases he
     exact (Zjf hon).orR
    ·cases h
   ·cases h
  ·cases h
 ·cases h
theorem aopT_gk {P:Program} {o:Oper} {x:AAct} {st st':St} {n:AN} {lg:Log} (hr:aopT P o x st=some (n,st',lg)):Gk st st' lg:=by
 unfold aopT at hr
 simp only [Option.map_eq_some_iff] at hr
 obtain ⟨⟨n2,s2,l2⟩,hr,he⟩:=hr
 cases he
 split at hr
 ·rename_i r hr1
  cases hr
  exact Zil hr1
 ·exact Zgr hr
theorem Zh0 {P:Program} {H:Option Hint} {o:Oper} {x:AAct} {st st':St} {n:AN} {lg:Log} (h:aopH P H o x st=some (n,st',lg)):Gk st st' lg:=by
 unfold aopH at h
 split at h
 ·split at h
  ·rename_i r hr
   obtain ⟨n1,s1,l1⟩:=r
   exact Zbg h (aopT_gk hr)
  ·split at h
   ·rename_i r hr
    obtain ⟨n1,s1,l1⟩:=r
    exact Zbg h (aAppT_gk hr)
   ·simp only [Option.bind_eq_some_iff] at h
    obtain ⟨⟨n1,s1,l1⟩,hr,h⟩:=h
    exact Zbg h (Zgt hr)
 ·exact aopOut_gk h
 ·split at h
  ·simp only [Option.bind_eq_some_iff] at h
   obtain ⟨⟨n1,s1,l1⟩,hr,h⟩:=h
   have h0:=Zgt hr
   exact Zbg h (fun r hr=>h0 r hr)
  ·cases aopPast_st h
   exact fun r _=>rfl
  ·cases h
 ·split at h
  ·simp only [Option.bind_eq_some_iff,Option.map_eq_some_iff] at h
   obtain ⟨q,hq,⟨y,s1,l1⟩,hb,he⟩:=h
   cases he
   exact aBytesD_gk hb
  ·cases h
 ·split at h
  ·rename_i r hr
   obtain ⟨n1,s1,l1⟩:=r
   exact Zbg h (aopMI_gk hr)
  ·split at h
   ·rename_i r hr
    obtain ⟨n1,s1,l1⟩:=r
    exact Zbg h (aopM_gk hr)
   ·split at h
    ·rename_i r hr
     obtain ⟨n1,s1,l1⟩:=r
     exact Zbg h (Zil hr)
    ·simp only [Option.bind_eq_some_iff] at h
     obtain ⟨⟨n1,s1,l1⟩,hr,h⟩:=h
     exact Zbg h (Zgr hr)
 ·split at h
  ·rename_i r hr
   cases h
   exact Zil hr
  ·split at h
   ·rename_i r hr
    cases h
    exact Zgt hr
   ·split at h
    ·rename_i r hr
     cases h
     exact aLz_gk hr
    ·exact Zgr h
 ·split at h
  ·rename_i r hr
   obtain ⟨n1,s1,l1⟩:=r
   exact Zbg h (Zil hr)
  ·split at h
   ·rename_i r hr
    obtain ⟨n1,s1,l1⟩:=r
    exact Zbg h (Zgt hr)
   ·split at h
    ·rename_i r hr
     obtain ⟨n1,s1,l1⟩:=r
     exact Zbg h (aLz_gk hr)
    ·simp only [Option.bind_eq_some_iff] at h
     obtain ⟨⟨n1,s1,l1⟩,hr,h⟩:=h
     exact Zbg h (Zgr hr)
 ·split at h
  ·rename_i r hr
   obtain ⟨n1,s1,l1⟩:=r
   exact Zbg h (Zgt hr)
  ·split at h
   ·rename_i r hr
    obtain ⟨n1,s1,l1⟩:=r
    exact Zbg h (aopI_gk hr)
   ·split at h
    ·rename_i r hr
     obtain ⟨n1,s1,l1⟩:=r
     exact Zbg h (Zil hr)
    ·simp only [Option.bind_eq_some_iff] at h
     obtain ⟨⟨n1,s1,l1⟩,hr,h⟩:=h
     exact Zbg h (Zgr hr)
 ·split at h
  ·rename_i r hr
   obtain ⟨n1,s1,l1⟩:=r
   exact Zbg h (Zil hr)
  ·split at h
   ·rename_i r hr
    obtain ⟨n1,s1,l1⟩:=r
    exact Zbg h (Zgt hr)
   ·simp only [Option.bind_eq_some_iff] at h
    obtain ⟨⟨n1,s1,l1⟩,hr,h⟩:=h
    exact Zbg h (Zgr hr)
theorem Zjn {P:Program} {E:Eng} (hE:Zbv E.call) {ops:Array Oper} {o:Oper} {x x':AAct} {st st':St} {pv:Option Value} {lg:Log} (h:opA P E ops o x st=some (pv,x',st',lg)):Gk st st' lg:=by
 unfold opA at h
 simp only [Option.bind_eq_some_iff] at h
 obtain ⟨b,hb,h⟩:=h
 cases b with
 | false =>
  simp only [cond_false,Option.map_eq_some_iff,Prod.mk.injEq] at h
  obtain ⟨x1,hx1,rfl,rfl,rfl,rfl⟩:=h
  exact Gk.refl _ _
 | true =>
  simp only [cond_true,Option.bind_eq_some_iff] at h
  obtain ⟨⟨n,st1,l1⟩,hop,h⟩:=h
  cases n with
  | value y =>
   simp only [Option.map_eq_some_iff,Prod.mk.injEq] at h
   obtain ⟨x1,hx1,rfl,rfl,rfl,rfl⟩:=h
   exact Zh0 hop
  | panic v =>
   simp only [Option.some.injEq,Prod.mk.injEq] at h
   obtain ⟨rfl,rfl,rfl,rfl⟩:=h
   exact Zh0 hop
  | enter f args =>
   simp only [Option.bind_eq_some_iff] at h
   obtain ⟨⟨r,st2,l2⟩,hcall,h⟩:=h
   cases r with
   | ret y =>
    simp only [Option.map_eq_some_iff,Prod.mk.injEq] at h
    obtain ⟨x1,hx1,rfl,rfl,rfl,rfl⟩:=h
    exact (Zh0 hop).trans (hE _ _ _ _ _ _ hcall)
   | pan v =>
    simp only [Option.some.injEq,Prod.mk.injEq] at h
    obtain ⟨rfl,rfl,rfl,rfl⟩:=h
    exact (Zh0 hop).trans (hE _ _ _ _ _ _ hcall)
  | defer d =>
   simp only [Option.map_eq_some_iff,Prod.mk.injEq] at h
   obtain ⟨x1,hx1,rfl,rfl,rfl,rfl⟩:=h
   exact Zh0 hop
theorem opsA_gk {P:Program} {E:Eng} (hE:Zbv E.call) {ops:Array Oper}:∀ (l:List Oper) (x:AAct) (st:St) (e:AX) (x':AAct) (st':St) (lg:Log),opsA P E ops l x st=some (e,x',st',lg)->Gk st st' lg:=by
 intro l
 induction l with
 | nil =>
  intro x st e x' st' lg h
  simp only [opsA,Option.some.injEq,Prod.mk.injEq] at h
  obtain ⟨rfl,rfl,rfl,rfl⟩:=h
  exact Gk.refl _ _
 | cons o rest ih =>
  intro x st e x' st' lg h
  simp only [opsA,Option.bind_eq_some_iff] at h
  obtain ⟨⟨pv,x1,st1,l1⟩,hop,h⟩:=h
  cases pv with
  | some v =>
   simp only [Option.some.injEq,Prod.mk.injEq] at h
   obtain ⟨rfl,rfl,rfl,rfl⟩:=h
   exact Zjn hE hop
  | none =>
   simp only [Option.map_eq_some_iff] at h
   obtain ⟨⟨e2,x2,st2,l2⟩,hr,he⟩:=h
   cases he
   exact (Zjn hE hop).trans (ih x1 st1 _ _ _ _ hr)
theorem opsS_gk {P:Program} {E:Eng} (hE:Zbv E.call) {ops:Array Oper}:∀ (l:List Oper) (x:AAct) (s:SMode) (st:St) (e:AX) (x':AAct) (s':SMode) (st':St) (lg:Log),opsS P E ops l x s st=some (e,x',s',st',lg)->Gk st st' lg:=by
 intro l
 induction l with
 | nil =>
  intro x s st e x' s' st' lg h
  simp only [opsS,Option.some.injEq,Prod.mk.injEq] at h
  obtain ⟨rfl,rfl,rfl,rfl,rfl⟩:=h
  exact Gk.refl _ _
 | cons o rest ih =>
  intro x s st e x' s' st' lg h
  simp only [opsS] at h
  cases hrec:Zek o with
  | true =>
   simp only [hrec,cond_true] at h
   split at h
   ·rename_i v _
    cases hany:isAny v with
    | true =>
     simp only [hany,cond_true] at h
     cases hlk:x.lacks o.dst with
     | false=>simp [hlk] at h
     | true =>
      simp only [hlk,cond_true] at h
      exact ih _ _ _ _ _ _ _ _ h
    | false =>
     simp only [hany,cond_false,Option.bind_eq_some_iff] at h
     obtain ⟨x1,hx1,h⟩:=h
     exact ih _ _ _ _ _ _ _ _ h
   ·simp only [Option.bind_eq_some_iff] at h
    obtain ⟨x1,hx1,h⟩:=h
    exact ih _ _ _ _ _ _ _ _ h
   ·cases h
  | false =>
   simp only [hrec,cond_false,Option.bind_eq_some_iff] at h
   obtain ⟨⟨pv,x1,st1,l1⟩,hop,h⟩:=h
   cases pv with
   | some v =>
    simp only [Option.some.injEq,Prod.mk.injEq] at h
    obtain ⟨rfl,rfl,rfl,rfl,rfl⟩:=h
    exact Zjn hE hop
   | none =>
    simp only [Option.map_eq_some_iff] at h
    obtain ⟨⟨e2,x2,s2,st2,l2⟩,hr,he⟩:=h
    cases he
    exact (Zjn hE hop).trans (ih _ _ _ _ _ _ _ _ hr)
theorem codeS_gk {P:Program} {E:Eng} (hE:Zbv E.call) (hC:Zio E.code):∀ (c:Code) (x:AAct) (s:SMode) (st:St) (e:AX) (x':AAct) (s':SMode) (st':St) (lg:Log),codeS P E c x s st=some (e,x',s',st',lg)->Gk st st' lg:=by
 have leaf:∀ (c:Code) (x:AAct) (s:SMode) (st:St) (e:AX) (x':AAct) (s':SMode) (st':St) (lg:Log),((E.code c x st).map fun (p:AX × AAct × St × Log)=>(p.1,p.2.1,s,p.2.2.1,p.2.2.2))=some (e,x',s',st',lg)->Gk st st' lg:=by
  intro c x s st e x' s' st' lg h
  simp only [Option.map_eq_some_iff] at h
  obtain ⟨⟨e1,x1,st1,l1⟩,hc,he⟩:=h
  cases he
  exact hC _ _ _ _ _ _ _ hc
 intro c
 induction c with
 | seq p q ihp ihq =>
  intro x s st e x' s' st' lg h
  simp only [codeS,Option.bind_eq_some_iff] at h
  obtain ⟨⟨e1,x1,s1,st1,l1⟩,hp,h⟩:=h
  cases e1 with
  | normal =>
   simp only [Option.map_eq_some_iff] at h
   obtain ⟨⟨e2,x2,s2,st2,l2⟩,hq,he⟩:=h
   cases he
   exact (ihp _ _ _ _ _ _ _ _ hp).trans (ihq _ _ _ _ _ _ _ _ hq)
  | _ =>
   simp only [Option.some.injEq,Prod.mk.injEq] at h
   obtain ⟨rfl,rfl,rfl,rfl,rfl⟩:=h
   exact ihp _ _ _ _ _ _ _ _ hp
 | cond cc p q ihp ihq =>
  intro x s st e x' s' st' lg h
  simp only [codeS,Option.bind_eq_some_iff] at h
  obtain ⟨v,hv,h⟩:=h
  split at h
  ·exact ihp _ _ _ _ _ _ _ _ h
  ·exact ihq _ _ _ _ _ _ _ _ h
  ·cases h
 | region id ops d =>
  intro x s st e x' s' st' lg h
  cases d with
  | false=>exact opsS_gk hE _ _ _ _ _ _ _ _ _ h
  | true=>exact leaf _ x s st e x' s' st' lg h
 | _=>intro x s st e x' s' st' lg h;exact leaf _ x s st e x' s' st' lg h
theorem deferA_gk {P:Program} {E:Eng} (hE:Zbv E.call) (hC:Zio E.code) {d:ADef} {s s':SMode} {st st':St} {lg:Log} (h:Zjs P E d s st=some (s',st',lg)):Gk st st' lg:=by
 unfold Zjs at h
 split at h
 ·simp only [Option.bind_eq_some_iff] at h
  obtain ⟨fn,hf,c,hc,h⟩:=h
  simp only [cond_eq_ite] at h
  split at h
  ·simp only [Option.bind_eq_some_iff] at h
   obtain ⟨⟨e,x1,s1,st1,l1⟩,hcode,h⟩:=h
   split at h
   ·split at h
    ·simp only [Option.map_eq_some_iff] at h
     obtain ⟨⟨y,l2⟩,hres,heq⟩:=h
     cases heq
     exact (codeS_gk hE hC _ _ _ _ _ _ _ _ _ hcode).orL
    ·cases h
   ·cases h
  ·cases h
 ·cases h
theorem leaveA_gk {P:Program} {E:Eng} (hE:Zbv E.call) (hC:Zio E.code) {fn:Func} {x:AAct}:∀ (ds:List ADef) (s:SMode) (st:St) (r:ARet) (st':St) (lg:Log),Zc6 P E fn x ds s st=some (r,st',lg)->Gk st st' lg:=by
 intro ds
 induction ds with
 | nil =>
  intro s st r st' lg h
  cases s with
  | returning =>
   simp only [Zc6,Option.map_eq_some_iff] at h
   obtain ⟨⟨y,l1⟩,hres,he⟩:=h
   cases he
   exact Gk.refl _ _
  | panicking v =>
   simp only [Zc6,Option.some.injEq,Prod.mk.injEq] at h
   obtain ⟨rfl,rfl,rfl⟩:=h
   exact Gk.refl _ _
  | recovered v=>simp [Zc6] at h
 | cons d ds ih =>
  intro s st r st' lg h
  simp only [Zc6,Option.bind_eq_some_iff,Option.map_eq_some_iff] at h
  obtain ⟨⟨s1,st1,l1⟩,hdef,⟨r2,st2,l2⟩,hlv,he⟩:=h
  cases he
  exact (deferA_gk hE hC hdef).trans (ih _ _ _ _ _ hlv)
theorem callF_gk {P:Program} {E:Eng} (hE:Zbv E.call) (hC:Zio E.code):Zbv (callF P E):=by
 intro f args st r st' lg h
 simp only [callF,Option.bind_eq_some_iff] at h
 obtain ⟨fn,hf,c,hc,h⟩:=h
 simp only [cond_eq_ite] at h
 split at h
 ·simp only [Option.bind_eq_some_iff] at h
  obtain ⟨⟨e,x1,st1,l1⟩,hcode,h⟩:=h
  cases e with
  | exit id=>cases h
  | goto l=>cases h
  | _ =>
   simp only [Option.map_eq_some_iff] at h
   obtain ⟨⟨r2,st2,l2⟩,hlv,he⟩:=h
   cases he
   exact (hC _ _ _ _ _ _ _ hcode).trans (leaveA_gk hE hC _ _ _ _ _ _ hlv)
 ·cases h
theorem seqA_gk {st:St} {r:CR} {k:AAct->St->CR} (h1:∀ e x' st' lg,r=some (e,x',st',lg)->Gk st st' lg) (h2:∀ x s e x' st' lg,k x s=some (e,x',st',lg)->Gk s st' lg):∀ e x' st' lg,seqA r k=some (e,x',st',lg)->Gk st st' lg:=by
 intro e x' st' lg h
 simp only [seqA,Option.bind_eq_some_iff] at h
 obtain ⟨⟨e1,x1,st1,l1⟩,hr,h⟩:=h
 cases e1 with
 | normal =>
  simp only [Option.map_eq_some_iff] at h
  obtain ⟨⟨e2,x2,st2,l2⟩,hk,he⟩:=h
  cases he
  exact (h1 _ _ _ _ hr).trans (h2 _ _ _ _ _ _ hk)
 | _ =>
  simp only [Option.some.injEq,Prod.mk.injEq] at h
  obtain ⟨rfl,rfl,rfl,rfl⟩:=h
  exact h1 _ _ _ _ hr
def DrawGk (D:Draw):Prop:=∀ E,Zbv E.call->∀ ops x st e x' st' lg,D E ops x st=some (e,x',st',lg)->Gk st st' lg
theorem eng_gk {P:Program} {D:Draw} (hD:DrawGk D) {O:FuncId->List AV->St->Option (ARet × St × Log)} {H:FuncId->Oper->Option Hint} (hO:Zbv O):∀ n,Zio (eng P D O H n).code/\Zio (eng P D O H n).loop/\Zbv (eng P D O H n).call:=by
 intro n
 induction n with
 | zero=>exact ⟨fun c x st e x' st' lg h=>by simp [eng] at h,fun c x st e x' st' lg h=>by simp [eng] at h,fun f args st r st' lg h=>by simp [eng] at h⟩
 | succ n ih =>
  refine ⟨?_,?_,?_⟩
  ·intro c x st e x' st' lg h
   simp only [eng] at h
   cases c with
   | region id ops d =>
    cases d with
    | true=>exact hD _ ih.2.2 ops x st _ _ _ _ h
    | false=>exact opsA_gk ih.2.2 _ x st _ _ _ _ h
   | seq p q=>exact seqA_gk (st:=st) (r:=(eng P D O H n).code p x st) (k:=(eng P D O H n).code q) (fun e x' st' lg hr=>ih.1 _ _ _ _ _ _ _ hr) (fun x s e x' st' lg hr=>ih.1 _ _ _ _ _ _ _ hr) _ _ _ _ h
   | cond cc p q =>
    simp only [codeF,Option.bind_eq_some_iff] at h
    obtain ⟨v,hv,h⟩:=h
    split at h
    ·exact ih.1 _ _ _ _ _ _ _ h
    ·exact ih.1 _ _ _ _ _ _ _ h
    ·cases h
   | block id body =>
    simp only [codeF,Option.map_eq_some_iff] at h
    obtain ⟨⟨e1,x1,st1,l1⟩,hb,he⟩:=h
    cases he
    exact ih.1 _ _ _ _ _ _ _ hb
   | loop body=>exact ih.2.1 _ _ _ _ _ _ _ h
   | scope body=>exact ih.1 _ _ _ _ _ _ _ h
   | skip=>simp [codeF] at h;obtain ⟨_,_,rfl,_⟩:=h;exact Gk.refl _ _
   | label k=>simp [codeF] at h;obtain ⟨_,_,rfl,_⟩:=h;exact Gk.refl _ _
   | exit k=>simp [codeF] at h;obtain ⟨_,_,rfl,_⟩:=h;exact Gk.refl _ _
   | ret=>simp [codeF] at h;obtain ⟨_,_,rfl,_⟩:=h;exact Gk.refl _ _
   | _=>simp [codeF] at h
  ·intro c x st e x' st' lg h
   exact seqA_gk (st:=st) (r:=(eng P D O H n).code c x st) (k:=(eng P D O H n).loop c) (fun e x' st' lg hr=>ih.1 _ _ _ _ _ _ _ hr) (fun x s e x' st' lg hr=>ih.2.1 _ _ _ _ _ _ _ hr) _ _ _ _ h
  ·intro f args st r st' lg h
   simp only [eng] at h
   split at h
   ·rename_i r0 hr
    cases h
    exact hO _ _ _ _ _ _ hr
   ·exact callF_gk ih.2.2 ih.1 _ _ _ _ _ _ h

end Go.Proofs.Ytcaclmdkhffegaa.eng
end

section
/- The engine: operations whose order is open. -/
namespace Go.Proofs.Ytcaclmdkhffegaa.eng
open Go
variable {W0 : Base}
set_option linter.unusedVariables false
set_option linter.unusedSimpArgs false

def Zgu (o:Oper) (t:T Nat):Nat:=o.after.toList.foldl (fun s e=>cond (Region.binds .any e) (s ||| (1 <<< e.on) ||| ((t.get e.on).getD 0)) s) 0
def Zb6:List Oper->Nat->T Nat->List Nat
 | [],_,_=>[]
 | o :: rest,i,t=>Zgu o t :: Zb6 rest (i+1) (T.set 24 t i (some (Zgu o t)))
def Zf8 (ops:Array Oper) (o:Oper) (m:Nat):List Oper->Nat->Bool
 | [],_=>true
 | p :: ps,i=>(m.testBit i || (p.apart ops o && o.apart ops p)) && Zf8 ops o m ps (i+1)
def Zjk (ops:Array Oper):List Oper->Nat->List Nat->List Oper->Bool
 | o :: rest,i,m :: ms,pre=>o.after.all (fun e=>!Region.binds .any e || Nat.blt e.on i) && (match o.op with | .defer _=>false | .select ..=>false | _=>true) && Zf8 ops o m pre 0 && Zjk ops rest (i+1) ms (pre++[o])
 | [],_,_,_=>true
 | _ :: _,_,[],_=>false
def Zhk (ops:Array Oper):Bool:=Zjk ops ops.toList 0 (Zb6 ops.toList 0 .nil) [] && Nat.blt (ops.size+1) 16777216

def Zky (t:T AV):List Tmp->T AV->T AV
 | [],acc=>acc
 | k :: ks,acc=>Zky t ks (cond (Nat.blt (k+1) 16777216) (match t.get k with | some y=>T.set 24 acc k (some y) | none=>acc) acc)
def seen (ops:Array Oper) (o:Oper) (x:AAct):AAct:={ tm:=Zky x.tm (o.looksAt ops) .nil,n:=x.n,defers:=[],f:=x.f }

def Zc5 (m:Nat) (l:Log):List (Nat × Log)->Bool
 | []=>true
 | (i,k) :: rest=>(m.testBit i || (Nat.beq (k.T &&& l.A) 0 && Nat.beq (l.T &&& k.A) 0)) && Zc5 m l rest
def Zes (i:Nat):List Nat->Bool
 | []=>true
 | m :: ms=>m.testBit i && Zes i ms
def Zga (m:Nat):List (Nat × Log)->Bool
 | []=>true
 | (i,k) :: rest=>(m.testBit i || Nat.beq k.T 0) && Zga m rest
def opD (P:Program) (E:Eng) (ops:Array Oper) (o:Oper) (x:AAct) (st:St):Option (Option Value × AAct × St × Log) :=
 (opA P E ops o (seen ops o x) st).bind fun (pv,x1,st1,l1)=>cond (Nat.ble st.next st1.next && Nat.beq (l1.T >>> st1.next) 0 && Nat.beq (l1.T ||| l1.A) l1.A && x1.defers.isEmpty)
  (match pv with
   | some v=>some (some v,x,st1,l1)
   | none=>match o.dst with
    | none=>some (none,x,st1,l1)
    | some d=>(x1.tm.get d).bind fun y=>(x.put (some d) y).map fun x2=>(none,x2,st1,l1)) none
def Zdk (P:Program) (E:Eng) (ops:Array Oper):List Oper->Nat->List Nat->List (Nat × Log)->AAct->St->CR
 | o :: rest,i,m :: ms,acc,x,st=>(opD P E ops o x st).bind fun (pv,x1,st1,l1)=>cond (Zc5 m l1 acc)
  (match pv with
   | some v=>cond (Zes i ms) (cond (Nat.beq m ((1 <<< i) - 1)) (some (.panic v,x1,st1,l1)) (cond (Zga m acc) (some (.panic v,{ x1 with tm:=.nil },st1,l1)) none)) none
   | none=>(Zdk P E ops rest (i+1) ms (cond (Nat.beq (l1.A ||| l1.T) 0) acc ((i,l1) :: acc)) x1 st1).map fun (e,x2,st2,l2)=>(e,x2,st2,l1.or l2)) none
 | [],_,_,_,x,st=>some (.normal,x,st,Log.no)
 | _ :: _,_,[],_,_,_=>none
def drawF (P:Program):Draw:=fun E ops x st=>cond (Zhk ops) (Zdk P E ops ops.toList 0 (Zb6 ops.toList 0 .nil) [] x st) none

end Go.Proofs.Ytcaclmdkhffegaa.eng
end

section
/- The engine: operations whose order is open, held: one. -/
namespace Go.Proofs.Ytcaclmdkhffegaa.eng
open Go
variable {W0 : Base}
set_option linter.unusedVariables false
set_option linter.unusedSimpArgs false

theorem Step.merge {A Ai Ti:Nat->Prop} {m m':Map} {g gi gi' g':Heap} {w w':World} (hR:Rel W0 A m g w) (h:Step W0 Ai Ti m gi w m' gi' w') (hAi:∀ r,Ai r->A r) (hTi:∀ r,Ti r->Ai r) (hg:∀ r,Ai r->gi r=g r)
  (h1:∀ r,Ti r->g' r=gi' r) (h2:∀ r,¬ Ti r->g' r=g r):Step W0 A Ti m g w m' g' w':=by
 have hkeep:∀ r o v n b,A r->¬ Ti r->g r=some o->(v,n) ∈ o.vers->m r v=some b->w'.heap[b.1]?=w.heap[b.1]?:=by
  intro r o v n b ha hn ho hv hb
  refine h.keep b.1 (hR.lt ha ho hv hb) ?_
  intro r2 o2 v2 n2 b2 ht2 ho2 hv2 hb2 he
  rw [hg r2 (hTi r2 ht2)] at ho2
  exact hn (hR.inj r2 r o2 o v2 n2 v n b2 b (hAi r2 (hTi r2 ht2)) ha ho2 ho hv2 hv hb2 hb he ▸ ht2)
 have cross:∀ r r' o o' v n v' n' b b',A r->A r'->Ti r->¬ Ti r'->gi' r=some o->g r'=some o'->(v,n) ∈ o.vers->(v',n') ∈ o'.vers->m' r v=some b->m r' v'=some b'->b.1=b'.1->False:=by
  intro r r' o o' v n v' n' b b' ha ha' ht hn' ho ho' hv hv' hb hb' he
  have hlt:=hR.lt ha' ho' hv' hb'
  obtain ⟨o0,v0,n0,b0,ho0,hv0,hb0,he0⟩:=h.own r o v n b ht ho hv hb (he ▸ hlt)
  rw [hg r (hTi r ht)] at ho0
  exact hn' (hR.inj r r' o0 o' v0 n0 v' n' b0 b' ha ha' ho0 ho' hv0 hv' hb0 hb' (he0.trans he) ▸ ht)
 refine ⟨h.ext,⟨?_,?_,?_,h.rel.size0,h.rel.amb,?_,?_,?_,h.rel.sv,h.rel.same,?_,fun r o e v n b ha ho hs hv hb=>?_⟩,h.mkeep,h.dkeep,fun r hr=>h2 r hr,h.os,h.tape,h.output,h.size,?_,?_,?_⟩
 ·intro r o ha ho v n hv
  by_cases ht:Ti r
  ·rw [h1 r ht] at ho
   exact h.rel.blk r o (hTi r ht) ho v n hv
  ·rw [h2 r ht] at ho
   obtain ⟨b,hb,hB⟩:=hR.blk r o ha ho v n hv
   exact ⟨b,h.ext.1 _ _ _ hb,hB.mono h.ext (hkeep r o v n b ha ht ho hv hb)⟩
 ·intro r r' o o' v n v' n' b b' ha ha' ho ho' hv hv' hb hb' he
  by_cases ht:Ti r
  ·by_cases ht':Ti r'
   ·rw [h1 r ht] at ho
    rw [h1 r' ht'] at ho'
    exact h.rel.inj r r' o o' v n v' n' b b' (hTi r ht) (hTi r' ht') ho ho' hv hv' hb hb' he
   ·rw [h1 r ht] at ho
    rw [h2 r' ht'] at ho'
    rw [h.mkeep r' ht'] at hb'
    exact (cross r r' o o' v n v' n' b b' ha ha' ht ht' ho ho' hv hv' hb hb' he).elim
  ·by_cases ht':Ti r'
   ·rw [h2 r ht] at ho
    rw [h1 r' ht'] at ho'
    rw [h.mkeep r ht] at hb
    exact (cross r' r o' o v' n' v n b' b ha' ha ht' ht ho' ho hv' hv hb' hb he.symm).elim
   ·rw [h2 r ht] at ho
    rw [h2 r' ht'] at ho'
    rw [h.mkeep r ht] at hb
    rw [h.mkeep r' ht'] at hb'
    exact hR.inj r r' o o' v n v' n' b b' ha ha' ho ho' hv hv' hb hb' he
 ·intro r o v n rest ha ho hv v' hlt
  by_cases ht:Ti r
  ·rw [h1 r ht] at ho
   exact h.rel.top r o v n rest (hTi r ht) ho hv v' hlt
  ·rw [h2 r ht] at ho
   rw [h.mkeep r ht]
   exact hR.top r o v n rest ha ho hv v' hlt
 ·intro r o v n b ha ho hv hb
  by_cases ht:Ti r
  ·rw [h1 r ht] at ho
   exact h.rel.abv r o v n b (hTi r ht) ho hv hb
  ·rw [h2 r ht] at ho
   rw [h.mkeep r ht] at hb
   exact hR.abv r o v n b ha ho hv hb
 ·intro r o R ha ho hd
  by_cases ht:Ti r
  ·rw [h1 r ht] at ho
   exact h.rel.dat r o R (hTi r ht) ho hd
  ·rw [h2 r ht] at ho
   obtain ⟨v,fp,hmv,hone,hfp,hR2⟩:=hR.dat r o R ha ho hd
   refine ⟨v,fp,h.ext.2.1 _ _ hmv,hone,fun k hk=>Nat.lt_of_lt_of_le (hfp k hk) h.size,fun w2 hw2=>hR2 w2 (fun k hk=>(hw2 k hk).trans (h.keep k (hfp k hk) ?_))⟩
   intro r2 o2 v2 n2 b2 ht2 ho2 hv2 hb2 he
   rw [hg r2 (hTi r2 ht2)] at ho2
   exact hR.disj r o R v fp r2 o2 v2 n2 b2 ha (hAi r2 (hTi r2 ht2)) ho hd hmv ho2 hv2 hb2 (he ▸ hk)
 ·intro r o R v fp r' o' u n b ha ha' ho hd hmv ho' hu hb hfpb
  by_cases ht:Ti r
  ·rw [h1 r ht] at ho
   by_cases ht':Ti r'
   ·rw [h1 r' ht'] at ho'
    exact h.rel.disj r o R v fp r' o' u n b (hTi r ht) (hTi r' ht') ho hd hmv ho' hu hb hfpb
   ·rw [h2 r' ht'] at ho'
    rw [h.mkeep r' ht'] at hb
    obtain ⟨r2,o2,R2,v2,fp2,ha2,ho2,hd2,hm2,hq2⟩:=h.dfp r o R v fp (hTi r ht) ht ho hd hmv b.1 hfpb (hR.lt ha' ho' hu hb)
    rw [hg r2 ha2] at ho2
    exact hR.disj r2 o2 R2 v2 fp2 r' o' u n b (hAi r2 ha2) ha' ho2 hd2 hm2 ho' hu hb hq2
  ·rw [h2 r ht] at ho
   rw [h.dkeep r ht] at hmv
   obtain ⟨v',fp',hmv',hone,hfp,hR2⟩:=hR.dat r o R ha ho hd
   rw [hmv] at hmv'
   cases hmv'
   by_cases ht':Ti r'
   ·rw [h1 r' ht'] at ho'
    obtain ⟨o0,v0,n0,b0,ho0,hv0,hb0,he0⟩:=h.own r' o' u n b ht' ho' hu hb (hfp _ hfpb)
    rw [hg r' (hTi r' ht')] at ho0
    exact hR.disj r o R v fp r' o0 v0 n0 b0 ha ha' ho hd hmv ho0 hv0 hb0 (he0 ▸ hfpb)
   ·rw [h2 r' ht'] at ho'
    rw [h.mkeep r' ht'] at hb
    exact hR.disj r o R v fp r' o' u n b ha ha' ho hd hmv ho' hu hb hfpb
 ·intro r o R v fp ha ho hd hmv
  by_cases ht:Ti r
  ·rw [h1 r ht] at ho
   exact h.rel.fpb r o R v fp (hTi r ht) ho hd hmv
  ·rw [h2 r ht] at ho
   rw [h.dkeep r ht] at hmv
   exact hR.fpb r o R v fp ha ho hd hmv
 ·by_cases ht:Ti r
  ·rw [h1 r ht] at ho
   exact h.rel.row r o e v n b (hTi r ht) ho hs hv hb
  ·rw [h2 r ht] at ho
   rw [h.mkeep r ht] at hb
   exact (hR.row r o e v n b ha ho hs hv hb).mono (hkeep r o v n b ha ht ho hv hb)
 ·intro k hk hno
  refine h.keep k hk ?_
  intro r o v n b ht ho hv hb
  rw [hg r (hTi r ht)] at ho
  exact hno r o v n b ht ho hv hb
 ·intro r o v n b ht ho hv hb hlt
  rw [h1 r ht] at ho
  obtain ⟨o0,v0,n0,b0,ho0,hv0,hb0,he0⟩:=h.own r o v n b ht ho hv hb hlt
  rw [hg r (hTi r ht)] at ho0
  exact ⟨o0,v0,n0,b0,ho0,hv0,hb0,he0⟩
 ·intro r o R v fp ha ht ho hd hmv k hk hlt
  rw [h1 r ht] at ho
  obtain ⟨r2,o2,R2,v2,fp2,ha2,ho2,hd2,hm2,hq2⟩:=h.dfp r o R v fp (hTi r ht) ht ho hd hmv k hk hlt
  rw [hg r2 ha2] at ho2
  exact ⟨r2,o2,R2,v2,fp2,hAi r2 ha2,ho2,hd2,hm2,hq2⟩

theorem eval_defers (a:Act) (ds:List Deferred):({ a with defers:=ds }:Act).eval=a.eval:=by
 funext x;cases x <;> rfl
theorem wpOp_defers {P:Program} {ops:Array Oper} {i:Nat} {a:Act} {w:World} {K:Act->World->Prop} {Q:Exit->Act->World->Prop}
  (h:wpOp P ops (fun e a' w'=>Q e { a' with defers:=a'.defers++a.defers } w') i (fun a' w'=>K { a' with defers:=a'.defers++a.defers } w') { a with defers:=[] } w):wpOp P ops Q i K a w:=by
 have ha:({ ({ a with defers:=[] }:Act) with defers:=({ a with defers:=[] }:Act).defers++a.defers }:Act)=a:=rfl
 have hput:∀ dst v,({ (({ a with defers:=[] }:Act).put dst v) with defers:=(({ a with defers:=[] }:Act).put dst v).defers++a.defers }:Act)=a.put dst v:=fun dst v=>by cases dst <;> rfl
 have hputd:∀ dst v d,({ (({ ({ a with defers:=[] }:Act) with defers:=[d] }:Act).put dst v) with defers:=(({ ({ a with defers:=[] }:Act) with defers:=[d] }:Act).put dst v).defers++a.defers }:Act)=({ a with defers:=d :: a.defers }:Act).put dst v:=fun dst v d=>by cases dst <;> rfl
 have hL:LetsOut (fun e a' w'=>Q e { a' with defers:=a'.defers++a.defers } w')->LetsOut Q:=fun ⟨b,w,hq⟩=>⟨_,w,hq⟩
 unfold wpOp at *
 split
 ·rename_i hn;rw [hn] at h;exact h
 ·rename_i o ho
  rw [ho] at h
  simp only at h
  split
  ·rename_i hw
   rw [if_pos hw] at h
   rcases h with h | ⟨hask,hl⟩
   ·left
    unfold Oper.wp at *
    rw [eval_defers] at h
    generalize (execOp a.eval o).run P w=r at h ⊢
    cases r with
    | ok n w' =>
     cases n <;> simp only [Oper.upon] at h ⊢
     case value v=>rw [hput] at h;exact h
     case skip=>rw [hput] at h;exact h
     case defer d=>have:=hputd o.dst undef d;rw [this] at h;exact h
     case enter f args =>
      refine Calls.mono h fun e w'' he=>?_
      cases e with
      | returned v=>simp only at he;rw [hput] at he;exact he
      | panicked c=>exact he
      | outgrown=>exact hL he
     case row row args=>exact Rows.mono h fun v w'' he=>by rw [hput] at he;exact he
    | halt x w'=>cases x <;> simp only [Oper.upon] at h ⊢;exact h
   ·right
    refine ⟨?_,hL hl⟩
    unfold Oper.asks at *
    rw [eval_defers] at hask
    exact hask
  ·rename_i hw
   rw [if_neg hw] at h
   rw [hput] at h
   exact h

theorem keepTm_get (t:T AV):∀ (ks:List Tmp) (acc:T AV) (k:Nat) (y:AV),(Zky t ks acc).get k=some y->acc.get k=some y \/ (k ∈ ks/\t.get k=some y)
 | [],acc,k,y,h=>.inl h
 | q :: ks,acc,k,y,h=>by
  simp only [Zky] at h
  rcases keepTm_get t ks _ k y h with h | ⟨h1,h2⟩
  ·cases hb:Nat.blt (q+1) 16777216 with
   | false=>simp only [hb,cond_false] at h;exact .inl h
   | true =>
    simp only [hb,cond_true] at h
    split at h
    ·rename_i z hz
     have hlt:q+1 < 16777216:=by simpa using hb
     rw [T.get_set _ _ _ _ _ (show q+1 < 2 ^ 24 from hlt)] at h
     by_cases e:k=q
     ·rw [if_pos e] at h
      cases h
      subst e
      exact .inr ⟨by simp,hz⟩
     ·rw [if_neg e] at h
      exact .inl h
    ·exact .inl h
  ·exact .inr ⟨by simp [h1],h2⟩

def Zlz (m:Map) (ops:Array Oper) (o:Oper) (x:AAct) (a:Act):Prop:=a.tmps.size=x.n/\∀ t y,t ∈ o.looksAt ops->x.tm.get t=some y->∃ v,y.den m=some v/\a.tmps[t]?=some v
theorem seen_ok {m:Map} {ops:Array Oper} {o:Oper} {x:AAct} {a:Act} (h:Zlz m ops o x a):TRel m (seen ops o x) { a with defers:=[] }:=by
 refine ⟨h.1,?_,rfl⟩
 intro t y hy
 simp only [seen] at hy
 rcases keepTm_get _ _ _ _ _ hy with hy | ⟨h1,h2⟩
 ·simp [T.get] at hy
 ·exact h.2 t y h1 h2

theorem opD_ok {P:Program} (hN:GoodP P) {E:Eng} (hE:Zet P E.call) {ops:Array Oper} {o:Oper} {i:Nat} (hi:ops[i]?=some o) {x x':AAct} {st st':St} {pv:Option Value} {lg:Log} (h:opD P E ops o x st=some (pv,x',st',lg))
  {A:Nat->Prop} {m:Map} {a:Act} {w:World} (hA:lg.Fits W0 A) (hR:Rel W0 A m st.heap.get w) (hF:Fresh A m st.next) (hT:Zlz m ops o x a) {K:Act->World->Prop} {Q:Exit->Act->World->Prop}
  (hK:pv=none->∀ m' a' w',Ok W0 A m st w m' st' lg w'->a'.defers=a.defers->a'.tmps.size=a.tmps.size->(∀ t,o.dst ≠ some t->a'.tmps[t]?=a.tmps[t]?)->(∀ t y,o.dst=some t->x'.tm.get t=some y->∃ v,y.den m'=some v/\a'.tmps[t]?=some v)->K a' w')
  (hQ:∀ v,pv=some v->∀ u m' w',Ok W0 A m st w m' st' lg w'->Q (.panic [{ v:=pick v u,recovered:=false }]) a w'):wpOp P ops Q i K a w:=by
 simp only [opD,Option.bind_eq_some_iff] at h
 obtain ⟨⟨pv1,x1,st1,l1⟩,hop,h⟩:=h
 cases hc:(Nat.ble st.next st1.next && Nat.beq (l1.T >>> st1.next) 0 && Nat.beq (l1.T ||| l1.A) l1.A && x1.defers.isEmpty) with
 | false=>simp [hc] at h
 | true =>
  simp only [hc,cond_true] at h
  simp only [Bool.and_eq_true,List.isEmpty_iff] at hc
  have hTs:=seen_ok hT
  refine wpOp_defers ?_
  cases pv1 with
  | some v =>
   simp only [Option.some.injEq,Prod.mk.injEq] at h
   obtain ⟨rfl,rfl,rfl,rfl⟩:=h
   refine Zkx hN hE hi hop hA hR hF hTs (fun hn=>by cases hn) (fun v' hv u m' w' hok hT'=>?_)
   cases hv
   exact hQ v rfl u m' w' hok
  | none =>
   have fin:pv=none/\st'=st1/\lg=l1/\(∀ t y,o.dst=some t->x'.tm.get t=some y->x1.tm.get t=some y):=by
    cases hd:o.dst with
    | none =>
     simp only [hd,Option.some.injEq,Prod.mk.injEq] at h
     obtain ⟨rfl,rfl,rfl,rfl⟩:=h
     exact ⟨rfl,rfl,rfl,fun t y ht=>by cases ht⟩
    | some d =>
     simp only [hd,Option.bind_eq_some_iff,Option.map_eq_some_iff] at h
     obtain ⟨y,hy,x2,hx2,he⟩:=h
     cases he
     refine ⟨rfl,rfl,rfl,fun t z ht hz=>?_⟩
     cases ht
     simp only [AAct.put] at hx2
     cases hb:(Nat.blt d x.n && Nat.blt (d+1) 16777216) with
     | false=>simp [hb] at hx2
     | true =>
      simp only [hb,cond_true,Option.some.injEq] at hx2
      simp only [Bool.and_eq_true,Nat.blt_eq] at hb
      subst hx2
      rw [T.get_set _ _ _ _ _ (show d+1 < 2 ^ 24 from hb.2)] at hz
      simp at hz
      subst hz
      exact hy
   obtain ⟨rfl,rfl,rfl,hx'⟩:=fin
   refine Zkx hN hE hi hop hA hR hF hTs (fun _ m' a' w' hok hT' hput=>?_) (fun v' hv=>by cases hv)
   obtain ⟨v,hv⟩:=hput
   have hd0:a'.defers=[]:=by
    have:=hT'.defers
    rw [hc.2] at this
    simpa [denD] using this.symm
   refine hK rfl m' _ w' hok (by simp [hd0]) ?_ ?_ ?_
   ·simp only [hv]
    cases o.dst <;> simp [Act.put]
   ·intro t ht
    simp only [hv]
    cases hdst:o.dst with
    | none=>rfl
    | some d =>
     have hne:d ≠ t:=fun e=>ht (by rw [hdst,e])
     simp only [Act.put]
     rw [Array.getElem?_setIfInBounds_ne hne]
   ·intro t y ht hy
    exact hT'.get t y (hx' t y ht hy)

theorem foldl_bit (t:T Nat):∀ (es:List Edge) (s i:Nat),(es.foldl (fun s e=>cond (Region.binds .any e) (s ||| (1 <<< e.on) ||| ((t.get e.on).getD 0)) s) s).testBit i=true →
  s.testBit i=true \/ ∃ e ∈ es,Region.binds .any e=true/\(i=e.on \/ ((t.get e.on).getD 0).testBit i=true)
 | [],s,i,h=>.inl h
 | e :: es,s,i,h=>by
  simp only [List.foldl_cons] at h
  rcases foldl_bit t es _ i h with h | ⟨e',he',hb,hi⟩
  ·cases hbd:Region.binds .any e with
   | false=>simp only [hbd,cond_false] at h;exact .inl h
   | true =>
    simp only [hbd,cond_true,Nat.testBit_or,Bool.or_eq_true] at h
    rcases h with (h | h) | h
    ·exact .inl h
    ·exact .inr ⟨e,by simp,hbd,.inl ((Zac e.on i).1 h)⟩
    ·exact .inr ⟨e,by simp,hbd,.inr h⟩
  ·exact .inr ⟨e',by simp [he'],hb,hi⟩
theorem aheads_spec:∀ (l:List Oper) (i:Nat) (t:T Nat),i+l.length < 16777215->∀ (k:Nat) (o:Oper),l[k]?=some o->∃ t',(Zb6 l i t)[k]?=some (Zgu o t')/\∀ q,t'.get q=if i<=q/\q < i+k then (Zb6 l i t)[q - i]? else t.get q
 | [],i,t,_,k,o,h=>by simp at h
 | p :: l,i,t,hb,0,o,h=>by
  simp at h
  subst h
  refine ⟨t,rfl,fun q=>?_⟩
  have:¬ (i<=q/\q < i+0):=by omega
  rw [if_neg this]
 | p :: l,i,t,hb,k+1,o,h=>by
  simp only [List.getElem?_cons_succ] at h
  simp only [List.length_cons] at hb
  obtain ⟨t',h1,h2⟩:=aheads_spec l (i+1) (T.set 24 t i (some (Zgu p t))) (by omega) k o h
  refine ⟨t',by simpa [Zb6] using h1,fun q=>?_⟩
  rw [h2 q,T.get_set _ _ _ _ _ (show i+1 < 2 ^ 24 by show i+1 < 16777216;omega)]
  by_cases h3:q=i
  ·subst h3
   have:¬ (q+1<=q/\q < q+1+k):=by omega
   rw [if_neg this,if_pos rfl,if_pos (by omega)]
   simp [Zb6]
  ·by_cases h4:i+1<=q/\q < i+1+k
   ·rw [if_pos h4,if_pos (by omega)]
    simp only [Zb6]
    rw [show q - i=(q - (i+1))+1 by omega]
    simp
   ·rw [if_neg h4,if_neg h3,if_neg (by omega)]
def pm (ops:Array Oper) (j:Nat):Nat:=(Zb6 ops.toList 0 .nil).getD j 0
theorem pm_spec {ops:Array Oper} (hs:ops.size < 16777215) {j i:Nat} {o:Oper} (ho:ops[j]?=some o) (h:(pm ops j).testBit i=true):∃ e ∈ o.after,Region.binds .any e=true/\(i=e.on \/ (e.on < j/\(pm ops e.on).testBit i=true)):=by
 obtain ⟨t',h1,h2⟩:=aheads_spec ops.toList 0 .nil (by simpa using hs) j o (by simpa using ho)
 have:pm ops j=Zgu o t':=by simp [pm,List.getD,h1]
 rw [this,Zgu] at h
 rcases foldl_bit t' _ _ _ h with h | ⟨e,he,hb,hi⟩
 ·simp at h
 ·refine ⟨e,by simpa using he,hb,hi.imp_right fun hi=>?_⟩
  rw [h2 e.on] at hi
  by_cases hlt:0<=e.on/\e.on < 0+j
  ·rw [if_pos hlt] at hi
   exact ⟨by omega,by simpa [pm,List.getD] using hi⟩
  ·rw [if_neg hlt] at hi
   simp [T.get] at hi

theorem apartFrom_ok {ops:Array Oper} {o:Oper} {m:Nat}:∀ (l:List Oper) (i:Nat),Zf8 ops o m l i=true->∀ k p,l[k]?=some p->m.testBit (i+k)=true \/ (p.apart ops o=true/\o.apart ops p=true)
 | [],i,h,k,p,hp=>by simp at hp
 | q :: l,i,h,k,p,hp=>by
  simp only [Zf8,Bool.and_eq_true,Bool.or_eq_true] at h
  cases k with
  | zero=>simp at hp;subst hp;exact h.1
  | succ k =>
   simp only [List.getElem?_cons_succ] at hp
   have:=apartFrom_ok l (i+1) h.2 k p hp
   rwa [show i+1+k=i+(k+1) by omega] at this
theorem statGo_ok {ops:Array Oper}:∀ (l:List Oper) (i:Nat) (ms:List Nat) (pre:List Oper),pre.length=i->Zjk ops l i ms pre=true->∀ k o,l[k]?=some o->(∀ e ∈ o.after,Region.binds .any e=true->e.on < i+k) ∧
  (∀ q p,(pre++l)[q]?=some p->q < i+k->(ms.getD k 0).testBit q=true \/ (p.apart ops o=true/\o.apart ops p=true))
 | [],i,ms,pre,hp,h,k,o,ho=>by simp at ho
 | p :: l,i,[],pre,hp,h,k,o,ho=>by simp [Zjk] at h
 | p :: l,i,m :: ms,pre,hp,h,k,o,ho=>by
  simp only [Zjk,Bool.and_eq_true] at h
  obtain ⟨⟨⟨h1,h2⟩,h3⟩,h4⟩:=h
  cases k with
  | zero =>
   simp at ho
   subst ho
   refine ⟨fun e he hb=>?_,fun q p' hq hlt=>?_⟩
   ·have:=Array.all_eq_true_iff_forall_mem.1 h1 e he
    simp [hb] at this
    simpa using this
   ·have hq':pre[q]?=some p':=by rwa [List.getElem?_append_left (by omega)] at hq
    have:=apartFrom_ok pre 0 h3 q p' hq'
    simpa using this
  | succ k =>
   simp only [List.getElem?_cons_succ] at ho
   obtain ⟨g1,g2⟩:=statGo_ok l (i+1) ms (pre++[p]) (by simp [hp]) h4 k o ho
   refine ⟨fun e he hb=>by have:=g1 e he hb;omega,fun q p' hq hlt=>?_⟩
   have:=g2 q p' (by simpa using hq) (by omega)
   simpa using this
theorem statOk_ok {ops:Array Oper} (h:Zhk ops=true):ops.size < 16777215/\(∀ j o,ops[j]?=some o->∀ e ∈ o.after,Region.binds .any e=true->e.on < j) ∧
  (∀ i j p o,i < j->ops[i]?=some p->ops[j]?=some o->(pm ops j).testBit i=true \/ (p.apart ops o=true/\o.apart ops p=true)):=by
 simp only [Zhk,Bool.and_eq_true,Nat.blt_eq] at h
 have h1:=statGo_ok ops.toList 0 _ [] rfl h.1
 refine ⟨by omega,fun j o ho e he hb=>?_,fun i j p o hij hp ho=>?_⟩
 ·have:=(h1 j o (by simpa using ho)).1 e he hb
  omega
 ·exact (h1 j o (by simpa using ho)).2 i p (by simpa using hp) (by omega)

theorem closed_pm {ops:Array Oper} (hs:ops.size < 16777215) (S:Nat->Prop) (hc:∀ j o,S j->ops[j]?=some o->∀ e ∈ o.after,Region.binds .any e=true->S e.on) :
  ∀ j o,ops[j]?=some o->(∀ e ∈ o.after,Region.binds .any e=true->S e.on)->∀ i,(pm ops j).testBit i=true->S i:=by
 intro j
 induction j using Nat.strongRecOn with
 | _ j ih =>
  intro o ho hd i hi
  obtain ⟨e,he,hb,h⟩:=pm_spec hs ho hi
  rcases h with rfl | ⟨hlt,h⟩
  ·exact hd e he hb
  ·have hlt':e.on < ops.size:=Nat.lt_trans hlt (Array.getElem?_eq_some_iff.1 ho).1
   have hq:ops[e.on]?=some ops[e.on]:=Array.getElem?_eq_getElem hlt'
   exact ih e.on hlt _ hq (fun e' he' hb'=>hc e.on _ (hd e he hb) hq e' he' hb') i h

def Zar {β:Type} (c:Nat->β) (tch S:Nat->Bool):Nat->β
 | 0=>c 0
 | k+1=>if S k && tch k then c (k+1) else Zar c tch S k
theorem Zdi {β:Type} {c:Nat->β} {tch S:Nat->Bool} (i:Nat):∀ n,i<=n->(∀ j,i<=j->j < n->tch j=true->S j=false)->Zar c tch S n=Zar c tch S i:=by
 intro n
 induction n with
 | zero=>intro h _;rw [show i=0 by omega]
 | succ n ih =>
  intro h hn
  by_cases he:i=n+1
  ·rw [he]
  ·simp only [Zar]
   rw [if_neg]
   ·exact ih (by omega) (fun j h1 h2=>hn j h1 (by omega))
   ·by_cases ht:tch n=true
    ·rw [hn n (by omega) (by omega) ht];simp
    ·simp [ht]
theorem Zc8 {β:Type} {c:Nat->β} {tch S S':Nat->Bool}:∀ n,(∀ j,j < n->tch j=true->S j=S' j)->Zar c tch S n=Zar c tch S' n
 | 0,_=>rfl
 | n+1,h=>by
  simp only [Zar]
  rw [Zc8 n (fun j hj=>h j (by omega))]
  by_cases ht:tch n=true
  ·rw [h n (by omega) ht]
  ·simp [ht]
theorem Zfk {β:Type} {c:Nat->β} {tch S:Nat->Bool}:∀ n,(∀ j,j < n->S j=false)->Zar c tch S n=c 0
 | 0,_=>rfl
 | n+1,h=>by
  simp only [Zar]
  rw [h n (by omega)]
  simpa using Zfk n (fun j hj=>h j (by omega))

end Go.Proofs.Ytcaclmdkhffegaa.eng
end

section
/- The engine: operations whose order is open, held: all orders. -/
namespace Go.Proofs.Ytcaclmdkhffegaa.eng
open Go
variable {W0 : Base}
set_option linter.unusedVariables false
set_option linter.unusedSimpArgs false

def Ap (a b:Log):Prop:=(a.T &&& b.A=0)/\(b.T &&& a.A=0)
theorem and_zero {a b r:Nat} (h:a &&& b=0) (ha:bit a r) (hb:bit b r):False:=by
 have:(a &&& b).testBit r=true:=by rw [Nat.testBit_and,ha,hb];rfl
 rw [h] at this
 simp at this
theorem Zbn {P:Program} {E:Eng} (hG:Zbv E.call) {ops:Array Oper} {o:Oper} {x x':AAct} {st st':St} {pv:Option Value} {lg:Log} (h:opD P E ops o x st=some (pv,x',st',lg)) :
  st.next<=st'.next/\(∀ r,bit lg.T r->r < st'.next)/\(∀ r,bit lg.T r->bit lg.A r)/\Gk st st' lg/\x'.n=x.n/\x'.defers=x.defers/\(∀ t,o.dst ≠ some t->x'.tm.get t=x.tm.get t)/\(∀ v,pv=some v->x'=x):=by
 simp only [opD,Option.bind_eq_some_iff] at h
 obtain ⟨⟨pv1,x1,st1,l1⟩,hop,h⟩:=h
 cases hc:(Nat.ble st.next st1.next && Nat.beq (l1.T >>> st1.next) 0 && Nat.beq (l1.T ||| l1.A) l1.A && x1.defers.isEmpty) with
 | false=>simp [hc] at h
 | true =>
  simp only [hc,cond_true] at h
  simp only [Bool.and_eq_true,List.isEmpty_iff,Nat.ble_eq,Nat.beq_eq] at hc
  obtain ⟨⟨⟨h1,h2⟩,h3⟩,h4⟩:=hc
  have q2:∀ r,bit l1.T r->r < st1.next:=by
   intro r hr
   rcases Nat.lt_or_ge r st1.next with hlt | hge
   ·exact hlt
   ·exfalso
    have:(l1.T >>> st1.next).testBit (r - st1.next)=true:=by
     rw [Nat.testBit_shiftRight,show st1.next+(r - st1.next)=r by omega]
     exact hr
    rw [h2] at this
    simp at this
  have q3:∀ r,bit l1.T r->bit l1.A r:=by
   intro r hr
   have:(l1.T ||| l1.A).testBit r=true:=by rw [Nat.testBit_or,hr];rfl
   rw [h3] at this
   exact this
  have q4:=Zjn hG hop
  cases pv1 with
  | some v =>
   simp only [Option.some.injEq,Prod.mk.injEq] at h
   obtain ⟨rfl,rfl,rfl,rfl⟩:=h
   exact ⟨h1,q2,q3,q4,rfl,rfl,fun _ _=>rfl,fun _ _=>rfl⟩
  | none =>
   cases hd:o.dst with
   | none =>
    simp only [hd,Option.some.injEq,Prod.mk.injEq] at h
    obtain ⟨rfl,rfl,rfl,rfl⟩:=h
    exact ⟨h1,q2,q3,q4,rfl,rfl,fun _ _=>rfl,fun _ _=>rfl⟩
   | some d =>
    simp only [hd,Option.bind_eq_some_iff,Option.map_eq_some_iff] at h
    obtain ⟨y,hy,x2,hx2,he⟩:=h
    cases he
    simp only [AAct.put] at hx2
    cases hb:(Nat.blt d x.n && Nat.blt (d+1) 16777216) with
    | false=>simp [hb] at hx2
    | true =>
     simp only [hb,cond_true,Option.some.injEq] at hx2
     simp only [Bool.and_eq_true,Nat.blt_eq] at hb
     subst hx2
     refine ⟨h1,q2,q3,q4,rfl,rfl,fun t ht=>?_,fun v hv=>by cases hv⟩
     have hne:¬ t=d:=fun e=>ht (by rw [e])
     rw [T.get_set _ _ _ _ _ (show d+1 < 2 ^ 24 from hb.2),if_neg hne]

theorem Zef {m:Nat} {l:Log}:∀ {acc:List (Nat × Log)},Zc5 m l acc=true->∀ p ∈ acc,m.testBit p.1=true \/ Ap p.2 l
 | [],h,p,hp=>by cases hp
 | (i,k) :: rest,h,p,hp=>by
  simp only [Zc5,Bool.and_eq_true,Bool.or_eq_true,Nat.beq_eq] at h
  rcases List.mem_cons.1 hp with rfl | hp
  ·exact h.1.imp_right fun ⟨a,b⟩=>⟨a,b⟩
  ·exact Zef h.2 p hp
theorem allBehind_ok {i:Nat}:∀ {ms:List Nat},Zes i ms=true->∀ k,k < ms.length->(ms.getD k 0).testBit i=true
 | [],h,k,hk=>by simp at hk
 | m :: ms,h,k,hk=>by
  simp only [Zes,Bool.and_eq_true] at h
  cases k with
  | zero=>simpa using h.1
  | succ k=>simpa using allBehind_ok h.2 k (by simpa using hk)

theorem accQuiet_ok {m:Nat}:∀ {acc:List (Nat × Log)},Zga m acc=true->∀ p ∈ acc,m.testBit p.1=true \/ p.2.T=0
 | [],h,p,hp=>by cases hp
 | (i,k) :: rest,h,p,hp=>by
  simp only [Zga,Bool.and_eq_true,Bool.or_eq_true,Nat.beq_eq] at h
  rcases List.mem_cons.1 hp with rfl | hp
  ·exact h.1
  ·exact accQuiet_ok h.2 p hp

structure Ran (P:Program) (E:Eng) (ops:Array Oper) (l:List Oper) (i:Nat) (ms:List Nat) (acc:List (Nat × Log)) (x:AAct) (st:St) (e:AX) (x':AAct) (st':St) (lg:Log) (N M:Nat) (X:Nat->AAct) (Sq:Nat->St) (L:Nat->Log):Prop where
 x0:X 0=x
 s0:Sq 0=st
 le:N<=l.length
 step:∀ k,k < N->∃ o,l[k]?=some o/\opD P E ops o (X k) (Sq k)=some (none,X (k+1),Sq (k+1),L k)
 sub:∀ k,k < M->(∀ r,bit (L k).A r->bit lg.A r)/\(∀ r,bit (L k).T r->bit lg.T r)/\(∀ p ∈ (L k).V,p ∈ lg.V)
 accs:∀ k,k < M->∀ p ∈ acc,(ms.getD k 0).testBit p.1=true \/ Ap p.2 (L k)
 sep:∀ k1 k2,k1 < k2->k2 < M->(ms.getD k2 0).testBit (i+k1)=true \/ Ap (L k1) (L k2)
 fin:(e=.normal/\N=l.length/\M=N/\x'=X N/\st'=Sq N) \/ (∃ v o x1,e=.panic v/\M=N+1/\l[N]?=some o/\opD P E ops o (X N) (Sq N)=some (some v,x1,st',L N)/\((ms.getD N 0=(1 <<< (i+N)) - 1/\x'=x1) \/ (x'={ x1 with tm:=.nil }/\(∀ p ∈ acc,(ms.getD N 0).testBit p.1=true \/ p.2.T=0)/\∀ k,k < N->(ms.getD N 0).testBit (i+k)=true \/ (L k).T=0))/\∀ k,N < k->k < ms.length->(ms.getD k 0).testBit (i+N)=true)

def consF {α:Type} (a:α) (f:Nat->α):Nat->α | 0=>a | k+1=>f k
theorem drawGo_ran {P:Program} {E:Eng} {ops:Array Oper}:∀ (l:List Oper) (i:Nat) (ms:List Nat) (acc:List (Nat × Log)) (x:AAct) (st:St) (e:AX) (x':AAct) (st':St) (lg:Log),Zdk P E ops l i ms acc x st=some (e,x',st',lg) →
  ∃ N M X Sq L,Ran P E ops l i ms acc x st e x' st' lg N M X Sq L
 | [],i,ms,acc,x,st,e,x',st',lg,h=>by
  simp only [Zdk,Option.some.injEq,Prod.mk.injEq] at h
  obtain ⟨rfl,rfl,rfl,rfl⟩:=h
  exact ⟨0,0,fun _=>x,fun _=>st,fun _=>Log.no,rfl,rfl,Nat.le_refl _,fun k hk=>absurd hk (Nat.not_lt_zero k),fun k hk=>absurd hk (Nat.not_lt_zero k),fun k hk=>absurd hk (Nat.not_lt_zero k),fun _ k _ hk=>absurd hk (Nat.not_lt_zero k),.inl ⟨rfl,rfl,rfl,rfl,rfl⟩⟩
 | o :: rest,i,[],acc,x,st,e,x',st',lg,h=>by simp [Zdk] at h
 | o :: rest,i,m :: ms,acc,x,st,e,x',st',lg,h=>by
  simp only [Zdk,Option.bind_eq_some_iff] at h
  obtain ⟨⟨pv,x1,st1,l1⟩,hop,h⟩:=h
  cases hla:Zc5 m l1 acc with
  | false=>simp [hla] at h
  | true =>
   simp only [hla,cond_true] at h
   cases pv with
   | some v =>
    simp only at h
    cases hbe:Zes i ms with
    | false=>simp [hbe] at h
    | true =>
     simp only [hbe,cond_true] at h
     have fin:∀ xf,(some (AX.panic v,xf,st1,l1):CR)=some (e,x',st',lg)->((m=(1 <<< i) - 1/\xf=x1) \/ (xf={ x1 with tm:=.nil }/\∀ p ∈ acc,m.testBit p.1=true \/ p.2.T=0))->∃ N M X Sq L,Ran P E ops (o :: rest) i (m :: ms) acc x st e x' st' lg N M X Sq L:=by
      intro xf h hm
      simp only [Option.some.injEq,Prod.mk.injEq] at h
      obtain ⟨rfl,rfl,rfl,rfl⟩:=h
      refine ⟨0,1,fun _=>x,fun _=>st,fun _=>l1,rfl,rfl,Nat.zero_le _,fun k hk=>absurd hk (Nat.not_lt_zero k),fun k hk=>⟨fun _ h=>h,fun _ h=>h,fun _ h=>h⟩,fun k hk p hp=>?_,fun k1 k2 h1 h2=>by omega,.inr ⟨v,o,x1,rfl,rfl,rfl,hop,?_,fun k h1 h2=>?_⟩⟩
      ·have:k=0:=by omega
       subst this
       simpa using Zef hla p hp
      ·rcases hm with ⟨h1,h2⟩ | ⟨h1,h2⟩
       ·exact .inl ⟨by simpa using h1,h2⟩
       ·exact .inr ⟨h1,by simpa using h2,fun k hk=>absurd hk (Nat.not_lt_zero k)⟩
      ·obtain ⟨k',rfl⟩:∃ k',k=k'+1:=⟨k - 1,by omega⟩
       simpa using allBehind_ok hbe k' (by simpa using h2)
     cases hc:Nat.beq m ((1 <<< i) - 1) with
     | true =>
      simp only [hc,cond_true] at h
      exact fin _ h (.inl ⟨Nat.eq_of_beq_eq_true hc,rfl⟩)
     | false =>
      simp only [hc,cond_false] at h
      cases hq:Zga m acc with
      | false=>simp [hq] at h
      | true =>
       simp only [hq,cond_true] at h
       exact fin _ h (.inr ⟨rfl,accQuiet_ok hq⟩)
   | none =>
    simp only [Option.map_eq_some_iff] at h
    obtain ⟨⟨e2,x2,st2,l2⟩,hrest,he⟩:=h
    cases he
    obtain ⟨N,M,X,Sq,L,hr⟩:=drawGo_ran rest (i+1) ms _ x1 st1 _ _ _ _ hrest
    have hacc0:∀ p ∈ acc,p ∈ (cond (Nat.beq (l1.A ||| l1.T) 0) acc ((i,l1) :: acc)):=by
     intro p hp
     cases Nat.beq (l1.A ||| l1.T) 0 <;> simp [hp]
    have hown:∀ k,k < M->(ms.getD k 0).testBit i=true \/ Ap l1 (L k):=by
     intro k hk
     cases hz:Nat.beq (l1.A ||| l1.T) 0 with
     | false=>exact hr.accs k hk (i,l1) (by rw [hz];simp)
     | true =>
      right
      have hz':=Nat.eq_of_beq_eq_true hz
      have zA:l1.A=0:=by
       apply Nat.eq_of_testBit_eq
       intro q
       have:(l1.A ||| l1.T).testBit q=false:=by rw [hz'];simp
       rw [Nat.testBit_or] at this
       simp at this ⊢
       exact this.1
      have zT:l1.T=0:=by
       apply Nat.eq_of_testBit_eq
       intro q
       have:(l1.A ||| l1.T).testBit q=false:=by rw [hz'];simp
       rw [Nat.testBit_or] at this
       simp at this ⊢
       exact this.2
      exact ⟨by rw [zT];simp,by rw [zA];simp⟩
    refine ⟨N+1,M+1,consF x X,consF st Sq,consF l1 L,rfl,rfl,by simpa using hr.le,?_,?_,?_,?_,?_⟩
    ·intro k hk
     cases k with
     | zero=>exact ⟨o,rfl,by simpa [consF,hr.x0,hr.s0] using hop⟩
     | succ k=>simpa [consF] using hr.step k (by omega)
    ·intro k hk
     cases k with
     | zero=>exact ⟨fun r h=>Zaj h,fun r h=>Zaj h,fun p h=>List.mem_append_left _ h⟩
     | succ k =>
      have:=hr.sub k (by omega)
      exact ⟨fun r h=>Zam (this.1 r h),fun r h=>Zam (this.2.1 r h),fun p h=>List.mem_append_right _ (this.2.2 p h)⟩
    ·intro k hk p hp
     cases k with
     | zero=>simpa [consF] using Zef hla p hp
     | succ k=>simpa [consF] using hr.accs k (by omega) p (hacc0 p hp)
    ·intro k1 k2 h1 h2
     cases k1 with
     | zero =>
      obtain ⟨k',rfl⟩:∃ k',k2=k'+1:=⟨k2 - 1,by omega⟩
      simpa [consF] using hown k' (by omega)
     | succ k1 =>
      obtain ⟨k',rfl⟩:∃ k',k2=k'+1:=⟨k2 - 1,by omega⟩
      have:=hr.sep k1 k' (by omega) (by omega)
      rw [show i+1+k1=i+(k1+1) by omega] at this
      simpa [consF] using this
    ·rcases hr.fin with ⟨h1,h2,h3,h4,h5⟩ | ⟨v,o',x1',h1,h2,h3,h4,h5,h6⟩
     ·exact .inl ⟨h1,by simp [h2],by simp [h3],by simpa [consF] using h4,by simpa [consF] using h5⟩
     ·refine .inr ⟨v,o',x1',h1,by simp [h2],by simpa using h3,by simpa [consF] using h4,?_,fun k hk hk2=>?_⟩
      ·rcases h5 with ⟨h5,h7⟩ | ⟨h7,h8,h9⟩
       ·refine .inl ⟨?_,h7⟩
        rw [show i+(N+1)=i+1+N by omega]
        simpa using h5
       ·refine .inr ⟨h7,fun p hp=>by simpa using h8 p (hacc0 p hp),fun k hk=>?_⟩
        cases k with
        | zero =>
         cases hz:Nat.beq (l1.A ||| l1.T) 0 with
         | false=>simpa [consF] using h8 (i,l1) (by rw [hz];simp)
         | true =>
          right
          have hz':=Nat.eq_of_beq_eq_true hz
          show l1.T=0
          apply Nat.eq_of_testBit_eq
          intro q
          have:(l1.A ||| l1.T).testBit q=false:=by rw [hz'];simp
          rw [Nat.testBit_or] at this
          simp at this ⊢
          exact this.2
        | succ k =>
         have:=h9 k (by omega)
         rw [show i+1+k=i+(k+1) by omega] at this
         simpa [consF] using this
      ·obtain ⟨k',rfl⟩:∃ k',k=k'+1:=⟨k - 1,by omega⟩
       have:=h6 k' (by omega) (by simpa using hk2)
       rw [show i+(N+1)=i+1+N by omega]
       simpa using this

theorem aheads_length:∀ (l:List Oper) (i:Nat) (t:T Nat),(Zb6 l i t).length=l.length
 | [],_,_=>rfl
 | o :: l,i,t=>by simp [Zb6,aheads_length l]

def dstIs (ops:Array Oper) (t k:Nat):Bool:=match (ops[k]?).bind (·.dst) with | some d=>Nat.beq d t | none=>false
theorem Zdj {ops:Array Oper} {t k:Nat} {o:Oper} (ho:ops[k]?=some o):dstIs ops t k=true ↔ o.dst=some t:=by
 simp only [dstIs,ho,Option.bind_some]
 cases o.dst <;> simp

structure Inv (W0:Base) (ops:Array Oper) (N:Nat) (X:Nat->AAct) (Sq:Nat->St) (L:Nat->Log) (A:Nat->Prop) (lg:Log) (m0:Map) (g0:Heap) (w0:World) (a0:Act) (S:Nat->Bool) (m:Map) (a:Act) (w:World):Prop where
 lt:∀ j,S j=true->j < N
 closed:∀ j o,S j=true->ops[j]?=some o->∀ e ∈ o.after,Region.binds .any e=true->S e.on=true
 step:Step W0 A (bit lg.T) m0 g0 w0 m (fun r=>Zar (fun k=>(Sq k).heap.get r) (fun k=>(L k).T.testBit r) S N) w
 dom:∀ r,A r->((∃ v b,m r v=some b) \/ ∃ x,m.d r=some x)->r < (Sq 0).next \/ ∃ j,S j=true/\bit (L j).T r
 size:a.tmps.size=(X 0).n
 tm:∀ t y,Zar (fun k=>(X k).tm.get t) (dstIs ops t) S N=some y->∃ v,y.den m=some v/\a.tmps[t]?=some v
 defers:a.defers=a0.defers

section
variable {P : Program} {E : Eng} {ops : Array Oper} {x x' : AAct} {st st' : St} {e : AX} {lg : Log} {N M : Nat} {X : Nat -> AAct} {Sq : Nat -> St} {L : Nat -> Log} {A : Nat -> Prop} {m0 : Map} {g0 : Heap} {w0 : World} {a0 : Act}

theorem Ran.op (hr:Ran P E ops ops.toList 0 (Zb6 ops.toList 0 .nil) [] x st e x' st' lg N M X Sq L) {k:Nat} (hk:k < M):∃ o pv x1 s1,ops[k]?=some o/\opD P E ops o (X k) (Sq k)=some (pv,x1,s1,L k)/\(k < N->pv=none/\x1=X (k+1)/\s1=Sq (k+1)):=by
 by_cases h:k < N
 ·obtain ⟨o,h1,h2⟩:=hr.step k h
  exact ⟨o,none,X (k+1),Sq (k+1),by simpa using h1,h2,fun _=>⟨rfl,rfl,rfl⟩⟩
 ·rcases hr.fin with ⟨_,_,h3,_,_⟩ | ⟨v,o',x1',h1,h2,h3,h4,h5,h6⟩
  ·omega
  ·have:k=N:=by omega
   subst this
   exact ⟨o',some v,x1',st',by simpa using h3,h4,fun h=>absurd h (Nat.lt_irrefl _)⟩
theorem Ran.leM (hr:Ran P E ops ops.toList 0 (Zb6 ops.toList 0 .nil) [] x st e x' st' lg N M X Sq L):N<=M:=by
 rcases hr.fin with ⟨_,_,h3,_,_⟩ | ⟨v,o',x1',h1,h2,h3,h4,h5,h6⟩ <;> omega
theorem Ran.mono (hG:Zbv E.call) (hr:Ran P E ops ops.toList 0 (Zb6 ops.toList 0 .nil) [] x st e x' st' lg N M X Sq L):∀ j i,i<=j->j<=N->(Sq i).next<=(Sq j).next:=by
 intro j
 induction j with
 | zero=>intro i h1 _;rw [show i=0 by omega];exact Nat.le_refl _
 | succ j ih =>
  intro i h1 h2
  by_cases h:i=j+1
  ·rw [h];exact Nat.le_refl _
  ·obtain ⟨o,_,ho⟩:=hr.step j (by omega)
   exact Nat.le_trans (ih i (by omega) (by omega)) (Zbn hG ho).1

theorem Inv.look (hG:Zbv E.call) (hst:Zhk ops=true) (hr:Ran P E ops ops.toList 0 (Zb6 ops.toList 0 .nil) [] x st e x' st' lg N M X Sq L) (hA:lg.Fits W0 A) {S:Nat->Bool} {m:Map} {a:Act} {w:World} (hi:Inv W0 ops N X Sq L A lg m0 g0 w0 a0 S m a w)
  {i:Nat} {o:Oper} (ho:ops[i]?=some o) (hiM:i < M) (hS:S i=false) (hp:∀ e ∈ o.after,Region.binds .any e=true->S e.on=true) :
  (∀ r,bit (L i).A r->Zar (fun k=>(Sq k).heap.get r) (fun k=>(L k).T.testBit r) S N=(Sq i).heap.get r)/\Fresh (bit (L i).A) m (Sq i).next/\Zlz m ops o (X i) a/\(∀ j,S j=true->∀ r,bit (L j).T r->bit (L i).A r->j < i) ∧
  (∀ j p,S j=true->ops[j]?=some p->∀ d,p.dst=some d->(d ∈ o.looksAt ops \/ o.dst=some d)->j < i):=by
 obtain ⟨hsz,hed,hap⟩:=statOk_ok hst
 have hiN:i<=N:=by rcases hr.fin with ⟨_,_,h3,_,_⟩ | ⟨v,o',x1',h1,h2,h3,h4,h5,h6⟩ <;> omega
 have hNM:=hr.leM
 have hcl:∀ j o',ops[j]?=some o'->(∀ e ∈ o'.after,Region.binds .any e=true->S e.on=true)->∀ q,(pm ops j).testBit q=true->S q=true :=
  closed_pm hsz (fun j=>S j=true) hi.closed
 have hpm:∀ q,(pm ops i).testBit q=true->S q=true:=hcl i o ho hp
 have hSpm:∀ j,S j=true->∀ q,(pm ops j).testBit q=true->S q=true:=fun j hj q hq=>by
  have hjs:j < ops.size:=by have:=hi.lt j hj;have:=hr.le;simp at this;omega
  have hjo:ops[j]?=some ops[j]:=Array.getElem?_eq_getElem hjs
  exact hcl j _ hjo (fun e he hb=>hi.closed j _ hj hjo e he hb) q hq
 have ord1:∀ j,S j=true->∀ r,bit (L j).T r->bit (L i).A r->j < i:=by
  intro j hj r hT hAr
  have hjN:=hi.lt j hj
  rcases Nat.lt_trichotomy j i with h | h | h
  ·exact h
  ·subst h;rw [hS] at hj;cases hj
  ·rcases hr.sep i j h (by omega) with hb | hb
   ·have:=hSpm j hj i (by simpa [pm] using hb)
    rw [hS] at this;cases this
   ·exact (and_zero hb.2 hT hAr).elim
 have ord2:∀ j,j < i->∀ r,bit (L j).T r->bit (L i).A r->S j=true:=by
  intro j hj r hT hAr
  rcases hr.sep j i hj hiM with hb | hb
  ·exact hpm j (by simpa [pm] using hb)
  ·exact (and_zero hb.1 hT hAr).elim
 have tord1:∀ j p,S j=true->ops[j]?=some p->∀ d,p.dst=some d->(d ∈ o.looksAt ops \/ o.dst=some d)->j < i:=by
  intro j p hj hp' d hd hl
  rcases Nat.lt_trichotomy j i with h | h | h
  ·exact h
  ·subst h;rw [hS] at hj;cases hj
  ·rcases hap i j o p h ho hp' with hb | hb
   ·have:=hSpm j hj i hb
    rw [hS] at this;cases this
   ·have q:=Oper.apart_spec hb.2
    rcases hl with hl | hl
    ·exact absurd hl (q.1 d hd)
    ·exact absurd hl (q.2.1 d hd)
 have tord2:∀ j p,j < i->ops[j]?=some p->∀ d,p.dst=some d->d ∈ o.looksAt ops->S j=true:=by
  intro j p hj hp' d hd hl
  rcases hap j i p o hj hp' ho with hb | hb
  ·exact hpm j hb
  ·exact absurd hl ((Oper.apart_spec hb.1).1 d hd)
 have agree:∀ r,bit (L i).A r->Zar (fun k=>(Sq k).heap.get r) (fun k=>(L k).T.testBit r) S N=(Sq i).heap.get r:=by
  intro r hAr
  rw [Zdi i N hiN (fun j h1 h2 ht=>?_)]
  ·rw [<- Zc8 (S:=fun k=>S k && Nat.blt k N) (S':=S) i (fun j hj _=>by have:Nat.blt j N=true:=(by simp;omega);simp [this])]
   have key:∀ q,q<=i->Zar (fun k=>(Sq k).heap.get r) (fun k=>(L k).T.testBit r) S q=(Sq q).heap.get r:=by
    intro q
    induction q with
    | zero=>intro _;rfl
    | succ q ih =>
     intro hq
     simp only [Zar]
     by_cases ht:(L q).T.testBit r=true
     ·rw [if_pos (by rw [ord2 q (by omega) r ht hAr,ht];rfl)]
     ·rw [if_neg (by simp [ht]),ih (by omega)]
      obtain ⟨o',_,ho'⟩:=hr.step q (by omega)
      exact ((Zbn hG ho').2.2.2.1 r ht).symm
   rw [Zc8 (S':=S) i (fun j hj _=>by have:Nat.blt j N=true:=(by simp;omega);simp [this])]
   exact key i (Nat.le_refl _)
  ·cases hj:S j with
   | false=>rfl
   | true=>have:=ord1 j hj r ht hAr;omega
 refine ⟨agree,?_,⟨?_,?_⟩,ord1,tord1⟩
 ·intro r hAr hge
  have no:((∃ v b,m r v=some b) \/ ∃ x,m.d r=some x)->False:=by
   intro hm
   rcases hi.dom r (hA.1 r ((hr.sub i hiM).1 r hAr)) hm with h | ⟨j,hj,hT⟩
   ·have:=hr.mono hG i 0 (Nat.zero_le _) hiN;omega
   ·have hji:=ord1 j hj r hT hAr
    obtain ⟨o',_,ho'⟩:=hr.step j (hi.lt j hj)
    have h1:=(Zbn hG ho').2.1 r hT
    have h2:=hr.mono hG i (j+1) (by omega) hiN
    omega
  refine ⟨fun v=>?_,?_⟩
  ·cases hm:m r v with
   | none=>rfl
   | some b=>exact (no (.inl ⟨v,b,hm⟩)).elim
  ·cases hm:m.d r with
   | none=>rfl
   | some x=>exact (no (.inr ⟨x,hm⟩)).elim
 ·have:∀ q,q<=N->(X q).n=(X 0).n:=by
   intro q
   induction q with
   | zero=>intro _;rfl
   | succ q ih =>
    intro hq
    obtain ⟨o',_,ho'⟩:=hr.step q (by omega)
    rw [(Zbn hG ho').2.2.2.2.1,ih (by omega)]
  rw [this i hiN]
  exact hi.size
 ·intro t y ht hy
  refine hi.tm t y ?_
  rw [Zdi i N hiN (fun j h1 h2 hd=>?_)]
  ·have key:∀ q,q<=i->Zar (fun k=>(X k).tm.get t) (dstIs ops t) S q=(X q).tm.get t:=by
    intro q
    induction q with
    | zero=>intro _;rfl
    | succ q ih =>
     intro hq
     obtain ⟨o',hl',ho'⟩:=hr.step q (by omega)
     have hoq:ops[q]?=some o':=by simpa using hl'
     simp only [Zar]
     by_cases hd:dstIs ops t q=true
     ·rw [if_pos (by rw [tord2 q o' (by omega) hoq t ((Zdj hoq).1 hd) ht,hd];rfl)]
     ·rw [if_neg (by simp [hd]),ih (by omega)]
      exact ((Zbn hG ho').2.2.2.2.2.2.1 t (fun he=>hd ((Zdj hoq).2 he))).symm
   rw [key i (Nat.le_refl _)]
   exact hy
  ·cases hj:S j with
   | false=>rfl
   | true =>
    have hjs:j < ops.size:=by have:=hr.le;simp at this;omega
    have hjo:ops[j]?=some ops[j]:=Array.getElem?_eq_getElem hjs
    have:=tord1 j _ hj hjo t ((Zdj hjo).1 hd) (.inl ht)
    omega

theorem Inv.rel (hG:Zbv E.call) (hst:Zhk ops=true) (hr:Ran P E ops ops.toList 0 (Zb6 ops.toList 0 .nil) [] x st e x' st' lg N M X Sq L) (hA:lg.Fits W0 A) {S:Nat->Bool} {m:Map} {a:Act} {w:World} (hi:Inv W0 ops N X Sq L A lg m0 g0 w0 a0 S m a w)
  {i:Nat} (hiM:i < M) (hag:∀ r,bit (L i).A r->Zar (fun k=>(Sq k).heap.get r) (fun k=>(L k).T.testBit r) S N=(Sq i).heap.get r):Rel W0 (bit (L i).A) m (Sq i).heap.get w:=by
 have h:=hi.step.rel.sub (A':=bit (L i).A) (fun r hr'=>hA.1 r ((hr.sub i hiM).1 r hr'))
 refine ⟨fun r o ha ho=>h.blk r o ha (by rw [hag r ha];exact ho),fun r r' o o' v n v' n' b b' ha ha' ho ho'=>h.inj r r' o o' v n v' n' b b' ha ha' (by rw [hag r ha];exact ho) (by rw [hag r' ha'];exact ho'),fun r o v n rest ha ho=>h.top r o v n rest ha (by rw [hag r ha];exact ho),h.size0,h.amb,fun r o v n b ha ho=>h.abv r o v n b ha (by rw [hag r ha];exact ho),fun r o R ha ho=>h.dat r o R ha (by rw [hag r ha];exact ho),fun r o R v fp r' o' u n b ha ha' ho hd hm ho'=>h.disj r o R v fp r' o' u n b ha ha' (by rw [hag r ha];exact ho) hd hm (by rw [hag r' ha'];exact ho'),h.sv,h.same,fun r o R v fp ha ho=>h.fpb r o R v fp ha (by rw [hag r ha];exact ho),fun r o e v n b ha ho=>h.row r o e v n b ha (by rw [hag r ha];exact ho)⟩

theorem Inv.next (hN:GoodP P) (hE:Zet P E.call) (hG:Zbv E.call) (hst:Zhk ops=true) (hr:Ran P E ops ops.toList 0 (Zb6 ops.toList 0 .nil) [] x st e x' st' lg N M X Sq L) (hA:lg.Fits W0 A) {S S':Nat->Bool} {m:Map} {a:Act} {w:World} (hi:Inv W0 ops N X Sq L A lg m0 g0 w0 a0 S m a w)
  {i:Nat} {o:Oper} (ho:ops[i]?=some o) (hiN:i < N) (hS:S i=false) (hp:∀ e ∈ o.after,Region.binds .any e=true->S e.on=true) (hS':∀ j,S' j=(S j || Nat.beq j i)) {K:Act->World->Prop} {Q:Exit->Act->World->Prop}
  (hK:∀ m' a' w',Inv W0 ops N X Sq L A lg m0 g0 w0 a0 S' m' a' w'->K a' w'):wpOp P ops Q i K a w:=by
 have hNM:=hr.leM
 obtain ⟨hag,hfr,hlook,ord1,tord1⟩:=hi.look hG hst hr hA ho (by omega) hS hp
 have hrel:=hi.rel hG hst hr hA (by omega) hag
 obtain ⟨o',hl',hop⟩:=hr.step i hiN
 have:o'=o:=by
  have:ops[i]?=some o':=by simpa using hl'
  rw [ho] at this;exact (Option.some.inj this).symm
 subst this
 obtain ⟨c1,c2,c3,c4,c5,c6,c7,_⟩:=Zbn hG hop
 refine opD_ok hN hE ho hop (A:=bit (L i).A) ⟨fun _ h=>h,fun p hp=>hA.2 p ((hr.sub i (by omega)).2.2 p hp)⟩ hrel hfr hlook (fun _ m' a' w' hok hdef hsz hother hdst=>?_) (fun v hv=>by cases hv)
 have hself:S' i=true:=by rw [hS'];simp
 have hne:∀ j,j ≠ i->S' j=S j:=fun j hj=>by
  rw [hS']
  have:Nat.beq j i=false:=by
   cases hq:Nat.beq j i with
   | false=>rfl
   | true=>exact absurd (Nat.eq_of_beq_eq_true hq) hj
  rw [this,Bool.or_false]
 have hsub:=hr.sub i (by omega)
 refine hK m' a' w' ⟨?_,?_,?_,?_,?_,?_,?_⟩
 ·intro j hj
  by_cases h:j=i
  ·rw [h];exact hiN
  ·rw [hne j h] at hj;exact hi.lt j hj
 ·intro j p hj hpj e he hb
  have hS'of:∀ q,S q=true->S' q=true:=fun q hq=>by rw [hS',hq];rfl
  by_cases h:j=i
  ·subst h
   rw [ho] at hpj
   cases hpj
   exact hS'of _ (hp e he hb)
  ·rw [hne j h] at hj
   exact hS'of _ (hi.closed j p hj hpj e he hb)
 ·have hmerge:=Step.merge (A:=A) (Ai:=bit (L i).A) (Ti:=bit (L i).T) (g':=fun r=>Zar (fun k=>(Sq k).heap.get r) (fun k=>(L k).T.testBit r) S' N) hi.step.rel hok.step (fun r hr'=>hA.1 r (hsub.1 r hr')) c3 (fun r hr'=>(hag r hr').symm) ?_ ?_
  ·exact (hi.step.trans hmerge).more (fun r hr'=>hr'.elim (fun q=>q) (hsub.2.1 r))
  ·intro r hT
   show Zar _ _ S' N=_
   rw [Zdi (i+1) N (by omega) (fun j h1 h2 ht=>?_)]
   ·simp only [Zar]
    rw [if_pos (by rw [hself];exact hT)]
   ·cases hj:S' j with
    | false=>rfl
    | true =>
     rw [hne j (by omega)] at hj
     have:=ord1 j hj r ht (c3 r hT)
     omega
  ·intro r hT
   show Zar _ _ S' N=Zar _ _ S N
   refine Zc8 N (fun j hj ht=>?_)
   by_cases h:j=i
   ·subst h;exact absurd ht hT
   ·exact hne j h
 ·intro r ha hb
  by_cases hT:bit (L i).T r
  ·exact .inr ⟨i,hself,hT⟩
  ·rw [hok.step.dkeep r hT] at hb
   simp only [hok.step.mkeep r hT] at hb
   rcases hi.dom r ha hb with h | ⟨j,hj,hT'⟩
   ·exact .inl h
   ·exact .inr ⟨j,by rw [hS',hj];rfl,hT'⟩
 ·rw [hsz];exact hi.size
 ·intro t y hy
  by_cases hd:o'.dst=some t
  ·have:Zar (fun k=>(X k).tm.get t) (dstIs ops t) S' N=(X (i+1)).tm.get t:=by
    rw [Zdi (i+1) N (by omega) (fun j h1 h2 ht=>?_)]
    ·simp only [Zar]
     rw [if_pos (by rw [hself,(Zdj ho).2 hd];rfl)]
    ·cases hj:S' j with
     | false=>rfl
     | true =>
      rw [hne j (by omega)] at hj
      have hjs:j < ops.size:=by have:=hr.le;simp at this;omega
      have hjo:ops[j]?=some ops[j]:=Array.getElem?_eq_getElem hjs
      have:=tord1 j _ hj hjo t ((Zdj hjo).1 ht) (.inr hd)
      omega
   rw [this] at hy
   exact hdst t y hd hy
  ·have:Zar (fun k=>(X k).tm.get t) (dstIs ops t) S' N=Zar (fun k=>(X k).tm.get t) (dstIs ops t) S N:=by
    refine Zc8 N (fun j hj ht=>?_)
    by_cases h:j=i
    ·subst h;exact absurd ((Zdj ho).1 ht) hd
    ·exact hne j h
   rw [this] at hy
   obtain ⟨v,hv,hg⟩:=hi.tm t y hy
   exact ⟨v,AV.den_mono hok.ext y hv,by rw [hother t hd];exact hg⟩
 ·rw [hdef];exact hi.defers
end

theorem countP_lt (p q:Nat->Bool) (hpq:∀ j,q j=true->p j=true) (i:Nat) (hp:p i=true) (hq:q i=false):∀ n,i < n->(List.range n).countP q < (List.range n).countP p:=by
 intro n
 induction n with
 | zero=>intro h;omega
 | succ n ih =>
  intro h
  rw [List.range_succ,List.countP_append,List.countP_append]
  by_cases hin:i=n
  ·subst hin
   have:(List.range i).countP q<=(List.range i).countP p:=List.countP_mono_left (fun j _=>hpq j)
   simp [hp,hq]
   all_goals omega
  ·have h1:=ih (by omega)
   have h2:(List.countP q [n])<=(List.countP p [n]):=List.countP_mono_left (fun j _=>hpq j)
   omega

theorem Zi9 {listed:Array Bool} {i:Nat} (hi:i < listed.size) (j:Nat):(listed.setIfInBounds i true).getD j false=(listed.getD j false || Nat.beq j i):=by
 by_cases h:j=i
 ·subst h
  simp [hi]
 ·have:Nat.beq j i=false:=by
   cases hq:Nat.beq j i with
   | false=>rfl
   | true=>exact absurd (Nat.eq_of_beq_eq_true hq) h
  rw [this,Bool.or_false]
  exact getD_set_ne false (Ne.symm h)

def ms0 (ops:Array Oper) (i:Nat):Nat:=(Zb6 ops.toList 0 .nil).getD i 0
theorem drawF_ok {P:Program} (hN:GoodP P) (hM:P.follows .mixedOrders=true):Zl0 P (drawF P):=by
 intro E hE hG id ops x st e x' st' lg h W0 A m a w hA hR hF hT
 unfold drawF at h
 cases hst:Zhk ops with
 | false=>simp [hst] at h
 | true =>
  simp only [hst,cond_true] at h
  obtain ⟨hsz,hed,hap⟩:=statOk_ok hst
  obtain ⟨N,M,X,Sq,L,hr⟩:=drawGo_ran _ _ _ _ _ _ _ _ _ _ h
  have hNM:=hr.leM
  have hNs:N<=ops.size:=by simpa using hr.le
  refine wp_region_any hM ?_
  have main:∀ (fuel:Nat) (listed:Array Bool) (m1:Map) (a1:Act) (w1:World),listed.size=ops.size->(List.range ops.size).countP (fun j=>!listed.getD j false)<=fuel →
    Inv W0 ops N X Sq L A lg m st.heap.get w a (fun j=>listed.getD j false) m1 a1 w1->wpAny P .any ops (XPost W0 A m st w e x' st' lg) fuel listed a1 w1:=by
   intro fuel
   induction fuel with
   | zero =>
    intro listed m1 a1 w1 hls hcnt hi
    have hall:∀ j,j < ops.size->listed.getD j false=true:=by
     intro j hj
     cases hq:listed.getD j false with
     | true=>rfl
     | false =>
      have hpos:0 < (List.range ops.size).countP (fun j=>!listed.getD j false):=List.countP_pos_iff.2 ⟨j,List.mem_range.2 hj,by simp only [hq];rfl⟩
      omega
    have hNn:N=ops.size:=by
     rcases Nat.lt_or_ge N ops.size with hlt | hge
     ·have:=hi.lt N (hall N hlt);omega
     ·omega
    have hready:Region.ready .any ops listed=[]:=by
     apply List.eq_nil_iff_forall_not_mem.2
     intro j hj
     obtain ⟨h1,o,ho,_⟩:=mem_ready.1 hj
     have hjs:=(Array.getElem?_eq_some_iff.1 ho).1
     have:=hall j hjs
     rw [Array.getD_eq_getD_getElem?,Array.getElem?_eq_getElem (by omega)] at h1 this
     simp at h1 this
     rw [h1] at this
     cases this
    refine ⟨hready,?_⟩
    rcases hr.fin with ⟨rfl,h2,h3,rfl,rfl⟩ | ⟨v,o',x1',h1,h2,h3,h4,h5,h6⟩
    ·have hheap:(fun r=>Zar (fun k=>(Sq k).heap.get r) (fun k=>(L k).T.testBit r) (fun j=>listed.getD j false) N)=(Sq N).heap.get:=by
      funext r
      have key:∀ q,q<=N->Zar (fun k=>(Sq k).heap.get r) (fun k=>(L k).T.testBit r) (fun j=>listed.getD j false) q=(Sq q).heap.get r:=by
       intro q
       induction q with
       | zero=>intro _;rfl
       | succ q ih =>
        intro hq
        simp only [Zar]
        by_cases ht:(L q).T.testBit r=true
        ·rw [if_pos (by rw [hall q (by omega),ht];rfl)]
        ·rw [if_neg (by simp [ht]),ih (by omega)]
         obtain ⟨o',_,ho'⟩:=hr.step q (by omega)
         exact ((Zbn hG ho').2.2.2.1 r ht).symm
      exact key N (Nat.le_refl _)
     have hstep:=hi.step
     rw [hheap] at hstep
     refine ⟨m1,⟨hstep,?_⟩,⟨?_,?_,?_⟩,undef,rfl⟩
     ·intro r ha hge
      have no:((∃ v b,m1 r v=some b) \/ ∃ x,m1.d r=some x)->False:=by
       intro hm
       rcases hi.dom r ha hm with h | ⟨j,hj,hTj⟩
       ·have:=hr.mono hG N 0 (Nat.zero_le _) (Nat.le_refl _);omega
       ·obtain ⟨o',_,ho'⟩:=hr.step j (hi.lt j hj)
        have h1:=(Zbn hG ho').2.1 r hTj
        have h2:=hr.mono hG N (j+1) (by have:=hi.lt j hj;omega) (Nat.le_refl _)
        omega
      refine ⟨fun v=>?_,?_⟩
      ·cases hm:m1 r v with
       | none=>rfl
       | some b=>exact (no (.inl ⟨v,b,hm⟩)).elim
      ·cases hm:m1.d r with
       | none=>rfl
       | some x=>exact (no (.inr ⟨x,hm⟩)).elim
     ·have:∀ q,q<=N->(X q).n=(X 0).n:=by
       intro q
       induction q with
       | zero=>intro _;rfl
       | succ q ih =>
        intro hq
        obtain ⟨o',_,ho'⟩:=hr.step q (by omega)
        rw [(Zbn hG ho').2.2.2.2.1,ih (by omega)]
      rw [this N (Nat.le_refl _)]
      exact hi.size
     ·intro t y hy
      refine hi.tm t y ?_
      have key:∀ q,q<=N->Zar (fun k=>(X k).tm.get t) (dstIs ops t) (fun j=>listed.getD j false) q=(X q).tm.get t:=by
       intro q
       induction q with
       | zero=>intro _;rfl
       | succ q ih =>
        intro hq
        obtain ⟨o',hl',ho'⟩:=hr.step q (by omega)
        have hoq:ops[q]?=some o':=by simpa using hl'
        simp only [Zar]
        by_cases hd:dstIs ops t q=true
        ·rw [if_pos (by rw [hall q (by omega),hd];rfl)]
        ·rw [if_neg (by simp [hd]),ih (by omega)]
         exact ((Zbn hG ho').2.2.2.2.2.2.1 t (fun he=>hd ((Zdj hoq).2 he))).symm
      rw [key N (Nat.le_refl _)]
      exact hy
     ·have hdx:∀ q,q<=N->(X q).defers=(X 0).defers:=by
       intro q
       induction q with
       | zero=>intro _;rfl
       | succ q ih =>
        intro hq
        obtain ⟨o',_,ho'⟩:=hr.step q (by omega)
        rw [(Zbn hG ho').2.2.2.2.2.1,ih (by omega)]
      rw [hdx N (Nat.le_refl _),hr.x0,hi.defers]
      exact Zel hi.step.ext hT.defers
    ·have:N < ops.size:=by
      have:=(List.getElem?_eq_some_iff.1 h3).1
      simpa using this
     omega
   | succ fuel ih =>
    intro listed m1 a1 w1 hls hcnt hi
    have hlist:∀ j,j < ops.size->(listed.getD j true=listed.getD j false):=by
     intro j hj
     simp only [Array.getD_eq_getD_getElem?,Array.getElem?_eq_getElem (show j < listed.size by omega)]
     rfl
    refine ⟨?_,?_⟩
    ·intro hrd
     by_cases hall:∀ j,j < ops.size->listed.getD j false=true
     ·have hz:(List.range ops.size).countP (fun j=>!listed.getD j false)=0:=by
       rw [List.countP_eq_zero]
       intro j hj
       rw [hall j (List.mem_range.1 hj)]
       simp
      have:=ih listed m1 a1 w1 hls (by omega) hi
      cases fuel with
      | zero=>exact this.2
      | succ f=>exact this.1 hrd
     ·exfalso
      have hex:∃ j,j < ops.size/\listed.getD j false=false:=by
       apply Classical.byContradiction
       intro hno
       apply hall
       intro j hj
       cases hq:listed.getD j false with
       | true=>rfl
       | false=>exact absurd ⟨j,hj,hq⟩ hno
      have hmin:∀ n,∀ j,j<=n->j < ops.size->listed.getD j false=false->False:=by
       intro n
       induction n using Nat.strongRecOn with
       | _ n ihn =>
        intro j hjn hj hq
        have hjo:ops[j]?=some ops[j]:=Array.getElem?_eq_getElem hj
        have:j ∈ Region.ready .any ops listed:=by
         refine mem_ready.2 ⟨by rw [hlist j hj];exact hq,_,hjo,fun e he hb=>?_⟩
         have hlt:=hed j _ hjo e he hb
         cases hq2:listed.getD e.on false with
         | true=>rfl
         | false=>exact (ihn e.on (by omega) e.on (Nat.le_refl _) (by omega) hq2).elim
        rw [hrd] at this
        cases this
      obtain ⟨j,hj,hq⟩:=hex
      exact hmin j j (Nat.le_refl _) hj hq
    ·intro i hmem
     obtain ⟨hq,o,ho,hpre⟩:=mem_ready.1 hmem
     have his:=(Array.getElem?_eq_some_iff.1 ho).1
     have hS:listed.getD i false=false:=by rw [<- hlist i his];exact hq
     by_cases hiN:i < N
     ·refine hi.next hN hE hG hst hr hA ho hiN hS hpre (S':=fun j=>(listed.setIfInBounds i true).getD j false) (fun j=>Zi9 (by omega) j) ?_
      intro m2 a2 w2 hi2
      refine ih _ m2 a2 w2 (by simp [hls]) ?_ hi2
      have:=countP_lt (fun j=>!listed.getD j false) (fun j=>!(listed.setIfInBounds i true).getD j false) (fun j hj=>by
       rw [Zi9 (by omega)] at hj
       simp at hj ⊢
       exact hj.1) i (by rw [hS];rfl) (by rw [Zi9 (by omega)];simp) ops.size his
      omega
     ·rcases hr.fin with ⟨h1,h2,h3,h4,h5⟩ | ⟨v,o',x1',rfl,h2,h3,h4,h5,h6⟩
      ·simp at h2;omega
      ·have hcl:∀ j,(pm ops i).testBit j=true->listed.getD j false=true:=closed_pm hsz (fun j=>listed.getD j false=true) hi.closed i o ho hpre
       by_cases hiN2:i=N
       ·subst hiN2
        have hoo:o'=o:=by
         have:ops[i]?=some o':=by simpa using h3
         rw [ho] at this;exact (Option.some.inj this).symm
        subst hoo
        have hall0:ms0 ops i=(1 <<< i) - 1->∀ j,j < i->listed.getD j false=true:=by
         intro h5 j hj
         refine hcl j ?_
         have:pm ops i=(1 <<< i) - 1:=by simpa [pm,ms0] using h5
         rw [this,Nat.shiftLeft_eq,Nat.one_mul,Nat.testBit_two_pow_sub_one]
         simpa using hj
        have hall:∀ j,j < i->∀ r,(L j).T.testBit r=true->listed.getD j false=true:=by
         intro j hj r hT
         rcases h5 with ⟨h5,_⟩ | ⟨_,_,h5⟩
         ·exact hall0 (by simpa [ms0] using h5) j hj
         ·rcases h5 j hj with h | h
          ·exact hcl j (by simpa [pm] using h)
          ·rw [h] at hT;simp at hT
        have hxt:x'.n=x1'.n/\x'.defers=x1'.defers/\∀ t y,x'.tm.get t=some y->x1'.tm.get t=some y/\∀ j,j < i->listed.getD j false=true:=by
         rcases h5 with ⟨h5,rfl⟩ | ⟨rfl,_,_⟩
         ·exact ⟨rfl,rfl,fun t y h=>⟨h,hall0 (by simpa [ms0] using h5)⟩⟩
         ·exact ⟨rfl,rfl,fun t y h=>by simp [T.get] at h⟩
        obtain ⟨hag,hfr,hlook,_,_⟩:=hi.look hG hst hr hA ho (by omega) hS hpre
        have hrel:=hi.rel hG hst hr hA (by omega) hag
        obtain ⟨c1,c2,c3,c4,c5,c6,c7,c8⟩:=Zbn hG h4
        have hxx:=c8 v rfl
        subst hxx
        have hsub:=hr.sub i (by omega)
        refine opD_ok hN hE ho h4 (A:=bit (L i).A) ⟨fun _ h=>h,fun p hp=>hA.2 p ((hr.sub i (by omega)).2.2 p hp)⟩ hrel hfr hlook (fun hn=>by cases hn) (fun v' hv u m' w' hok=>?_)
        cases hv
        have hheap:∀ r,Zar (fun k=>(Sq k).heap.get r) (fun k=>(L k).T.testBit r) (fun j=>listed.getD j false) i=(Sq i).heap.get r:=by
         intro r
         have key:∀ q,q<=i->Zar (fun k=>(Sq k).heap.get r) (fun k=>(L k).T.testBit r) (fun j=>listed.getD j false) q=(Sq q).heap.get r:=by
          intro q
          induction q with
          | zero=>intro _;rfl
          | succ q ih =>
           intro hq
           simp only [Zar]
           by_cases ht:(L q).T.testBit r=true
           ·rw [if_pos (by rw [hall q (by omega) r ht,ht];rfl)]
           ·rw [if_neg (by simp [ht]),ih (by omega)]
            obtain ⟨o',_,ho'⟩:=hr.step q (by omega)
            exact ((Zbn hG ho').2.2.2.1 r ht).symm
         exact key i (Nat.le_refl _)
        have hmerge:=Step.merge (A:=A) (Ai:=bit (L i).A) (Ti:=bit (L i).T) (g':=st'.heap.get) hi.step.rel hok.step (fun r hr'=>hA.1 r (hsub.1 r hr')) c3 (fun r hr'=>(hag r hr').symm) (fun r _=>rfl) (fun r hT=>by rw [c4 r hT];exact (hheap r).symm)
        refine ⟨m',⟨(hi.step.trans hmerge).more (fun r hr'=>hr'.elim (fun q=>q) (hsub.2.1 r)),?_⟩,⟨?_,?_,?_⟩,u,rfl⟩
        ·intro r ha hge
         have no:((∃ v b,m' r v=some b) \/ ∃ x,m'.d r=some x)->False:=by
          intro hm
          by_cases hT:bit (L i).T r
          ·have:=c2 r hT;omega
          ·rw [hok.step.dkeep r hT] at hm
           simp only [hok.step.mkeep r hT] at hm
           rcases hi.dom r ha hm with h | ⟨j,hj,hTj⟩
           ·have:=hr.mono hG i 0 (Nat.zero_le _) (Nat.le_refl _);omega
           ·obtain ⟨o',_,ho'⟩:=hr.step j (hi.lt j hj)
            have h1:=(Zbn hG ho').2.1 r hTj
            have h2:=hr.mono hG i (j+1) (by have:=hi.lt j hj;omega) (Nat.le_refl _)
            omega
         refine ⟨fun v=>?_,?_⟩
         ·cases hm:m' r v with
          | none=>rfl
          | some b=>exact (no (.inl ⟨v,b,hm⟩)).elim
         ·cases hm:m'.d r with
          | none=>rfl
          | some x=>exact (no (.inr ⟨x,hm⟩)).elim
        ·rw [hxt.1];exact hlook.1
        ·intro t y hy
         obtain ⟨hy,hall⟩:=hxt.2.2 t y hy
         have key:∀ q,q<=i->Zar (fun k=>(X k).tm.get t) (dstIs ops t) (fun j=>listed.getD j false) q=(X q).tm.get t:=by
          intro q
          induction q with
          | zero=>intro _;rfl
          | succ q ih =>
           intro hq
           obtain ⟨o',hl',ho'⟩:=hr.step q (by omega)
           have hoq:ops[q]?=some o':=by simpa using hl'
           simp only [Zar]
           by_cases hd:dstIs ops t q=true
           ·rw [if_pos (by rw [hall q (by omega),hd];rfl)]
           ·rw [if_neg (by simp [hd]),ih (by omega)]
            exact ((Zbn hG ho').2.2.2.2.2.2.1 t (fun he=>hd ((Zdj hoq).2 he))).symm
         obtain ⟨u,hu,hg⟩:=hi.tm t y (by rw [key i (Nat.le_refl _)];exact hy)
         exact ⟨u,AV.den_mono hok.ext y hu,hg⟩
        ·have hdx:∀ q,q<=i->(X q).defers=(X 0).defers:=by
          intro q
          induction q with
          | zero=>intro _;rfl
          | succ q ih =>
           intro hq
           obtain ⟨o',_,ho'⟩:=hr.step q (by omega)
           rw [(Zbn hG ho').2.2.2.2.2.1,ih (by omega)]
         rw [hxt.2.1,hdx i (Nat.le_refl _),hr.x0,hi.defers]
         exact Zel (hi.step.ext.trans hok.ext) hT.defers
       ·exfalso
        have hlen:(Zb6 ops.toList 0 .nil).length=ops.size:=by rw [aheads_length];simp
        have h7:=h6 i (by omega) (by omega)
        have:=hcl N (by simpa [pm] using h7)
        have:=hi.lt N this
        omega
  refine main ops.size _ m a _ (by simp) ?_ ⟨?_,?_,?_,?_,?_,?_,rfl⟩
  ·exact Nat.le_trans List.countP_le_length (by simp)
  ·intro j hj
   simp [Array.getD_eq_getD_getElem?,Array.getElem?_replicate] at hj
   split at hj <;> simp at hj
  ·intro j o hj
   simp [Array.getD_eq_getD_getElem?,Array.getElem?_replicate] at hj
   split at hj <;> simp at hj
  ·have:(fun r=>Zar (fun k=>(Sq k).heap.get r) (fun k=>(L k).T.testBit r) (fun j=>(Array.replicate ops.size false).getD j false) N)=st.heap.get:=by
    funext r
    rw [Zfk N (fun j hj=>by
     simp only [Array.getD_eq_getD_getElem?,Array.getElem?_replicate]
     split <;> rfl),hr.s0]
   rw [this]
   exact Zft _ hR
  ·intro r ha hb
   left
   rw [hr.s0]
   rcases Nat.lt_or_ge r st.next with hlt | hge
   ·exact hlt
   ·rcases hb with ⟨v,b,hb⟩ | ⟨x,hx⟩
    ·rw [(hF r ha hge).1 v] at hb;cases hb
    ·rw [(hF r ha hge).2] at hx;cases hx
  ·rw [hr.x0];exact hT.size
  ·intro t y hy
   rw [Zfk N (fun j hj=>by
    simp only [Array.getD_eq_getD_getElem?,Array.getElem?_replicate]
    split <;> rfl),hr.x0] at hy
   exact hT.get t y hy

end Go.Proofs.Ytcaclmdkhffegaa.eng
end

section
/- The engine, and what a call that it runs is. -/
namespace Go.Proofs.Ytcaclmdkhffegaa.eng
open Go Go.RowKit
variable {W0 : Base}
set_option linter.unusedVariables false
set_option linter.unusedSimpArgs false

theorem drawGo_both {P:Program} {E:Eng} (hG:Zbv E.call) {ops:Array Oper}:∀ (l:List Oper) (i:Nat) (ms:List Nat) (acc:List (Nat × Log)) (x:AAct) (st:St) (e:AX) (x':AAct) (st':St) (lg:Log),Zdk P E ops l i ms acc x st=some (e,x',st',lg)->Gk st st' lg/\∀ k,e ≠ .goto k
 | [],i,ms,acc,x,st,e,x',st',lg,h=>by
  simp only [Zdk,Option.some.injEq,Prod.mk.injEq] at h
  obtain ⟨rfl,rfl,rfl,rfl⟩:=h
  exact ⟨Gk.refl _ _,by simp⟩
 | o :: rest,i,[],acc,x,st,e,x',st',lg,h=>by simp [Zdk] at h
 | o :: rest,i,m :: ms,acc,x,st,e,x',st',lg,h=>by
  simp only [Zdk,Option.bind_eq_some_iff] at h
  obtain ⟨⟨pv,x1,st1,l1⟩,hop,h⟩:=h
  have hgk:=(Zbn hG hop).2.2.2.1
  cases hla:Zc5 m l1 acc with
  | false=>simp [hla] at h
  | true =>
   simp only [hla,cond_true] at h
   cases pv with
   | some v =>
    simp only at h
    simp only [cond_eq_ite] at h
    split at h
    ·split at h
     ·simp only [Option.some.injEq,Prod.mk.injEq] at h
      obtain ⟨rfl,rfl,rfl,rfl⟩:=h
      exact ⟨hgk,by simp⟩
     ·split at h
      ·simp only [Option.some.injEq,Prod.mk.injEq] at h
       obtain ⟨rfl,rfl,rfl,rfl⟩:=h
       exact ⟨hgk,by simp⟩
      ·cases h
    ·cases h
   | none =>
    simp only [Option.map_eq_some_iff] at h
    obtain ⟨⟨e2,x2,st2,l2⟩,hrest,he⟩:=h
    cases he
    obtain ⟨h1,h2⟩:=drawGo_both hG rest _ _ _ _ _ _ _ _ _ hrest
    exact ⟨hgk.trans h1,h2⟩
theorem drawGo_noJump {P:Program} {E:Eng} {ops:Array Oper}:∀ (l:List Oper) (i:Nat) (ms:List Nat) (acc:List (Nat × Log)) (x:AAct) (st:St) (e:AX) (r:AAct × St × Log),Zdk P E ops l i ms acc x st=some (e,r)->∀ k,e ≠ .goto k
 | [],i,ms,acc,x,st,e,r,h=>by simp [Zdk] at h;rw [<- h.1];simp
 | o :: rest,i,[],acc,x,st,e,r,h=>by simp [Zdk] at h
 | o :: rest,i,m :: ms,acc,x,st,e,r,h=>by
  simp only [Zdk,Option.bind_eq_some_iff] at h
  obtain ⟨⟨pv,x1,st1,l1⟩,hop,h⟩:=h
  cases hla:Zc5 m l1 acc with
  | false=>simp [hla] at h
  | true =>
   simp only [hla,cond_true] at h
   cases pv with
   | some v =>
    simp only at h
    simp only [cond_eq_ite] at h
    split at h
    ·split at h
     ·simp at h;rw [<- h.1];simp
     ·split at h
      ·simp at h;rw [<- h.1];simp
      ·cases h
    ·cases h
   | none =>
    simp only [Option.map_eq_some_iff] at h
    obtain ⟨⟨e2,x2,st2,l2⟩,hrest,he⟩:=h
    cases he
    exact drawGo_noJump rest _ _ _ _ _ _ _ hrest
theorem drawF_noJump (P:Program):Zgx (drawF P):=by
 intro E ops x st e r h
 simp only [drawF,cond_eq_ite] at h
 split at h
 ·exact drawGo_noJump _ _ _ _ _ _ _ _ h
 ·cases h
theorem drawF_gk (P:Program):DrawGk (drawF P):=by
 intro E hG ops x st e x' st' lg h
 simp only [drawF,cond_eq_ite] at h
 split at h
 ·exact (drawGo_both hG _ _ _ _ _ _ _ _ _ _ h).1
 ·cases h

abbrev Orc:=FuncId->List AV->St->Option (ARet × St × Log)
structure OrcOk (P:Program) (O:Orc):Prop where
 call:Zet P O
 gk:Zbv O
def noOrc:Orc:=fun _ _ _=>none
theorem noOrc_ok (P:Program):OrcOk P noOrc:=⟨fun f args st r st' lg h=>(by cases h),fun f args st r st' lg h=>(by cases h)⟩
def Zlf (P:Program) (O:Orc) (n:Nat) (H:FuncId->Oper->Option Hint:=fun _ _=>none):Eng:=eng P (drawF P) O H n
theorem theEng_ok {P:Program} (hN:GoodP P) (hM:P.follows .mixedOrders=true) {O:Orc} (hO:OrcOk P O) (n:Nat) {H:FuncId->Oper->Option Hint}:EngOk P (Zlf P O n H) :=
 eng_ok hN (drawF_ok hN hM) (drawF_noJump P) hO.call (fun n=>(eng_gk (drawF_gk P) hO.gk n).2.2) n

def Base.none (w:World):Base:=⟨w,fun _=>Option.none,fun _ _=>Option.none,fun _=>False,fun _=>False⟩

end Go.Proofs.Ytcaclmdkhffegaa.eng
end

section
/- The engine: what is known by other means. -/
namespace Go.Proofs.Ytcaclmdkhffegaa.eng
open Go Go.RowKit
variable {W0 : Base}
set_option linter.unusedVariables false
set_option linter.unusedSimpArgs false


def orcOr (a b:Orc):Orc:=fun f args st=>match a f args st with | some r=>some r | none=>b f args st
theorem Zi3 {P:Program} {a b:Orc} (ha:OrcOk P a) (hb:OrcOk P b):OrcOk P (orcOr a b):=by
 refine ⟨?_,?_⟩
 ·intro f args st r st' lg hr
  simp only [orcOr] at hr
  split at hr
  ·rename_i q hq
   cases hr
   exact ha.call f args st r st' lg hq
  ·exact hb.call f args st r st' lg hr
 ·intro f args st r st' lg hr
  simp only [orcOr] at hr
  split at hr
  ·rename_i q hq
   cases hr
   exact ha.gk f args st r st' lg hq
  ·exact hb.gk f args st r st' lg hr


end Go.Proofs.Ytcaclmdkhffegaa.eng
end

section
/- The engine: calls of functions that are told of by a contract. -/
namespace Go.Proofs.Ytcaclmdkhffegaa.eng
open Go Go.RowKit
variable {W0 : Base}
set_option linter.unusedVariables false
set_option linter.unusedSimpArgs false

def Za0:Sh->List AV->Option (List AV)
 | [],[]=>some []
 | none :: s,x :: xs=>(Za0 s xs).map (x :: ·)
 | some n :: s,x :: xs=>x.aggs.bind fun cs=>cond (Nat.beq cs.length n) ((Za0 s xs).map (cs++·)) none
 | _,_=>none
theorem Zbq {m:Map}:∀ (s:Sh) (xs:List AV) {ls:List AV} {vs:List Value},Za0 s xs=some ls->denL m xs=some vs->∃ us,denL m ls=some us/\us.length=shLen s/\vs=Za7 s us
 | [],[],ls,vs,h,hv=>by
  simp only [Za0,Option.some.injEq] at h
  simp only [denL,Option.some.injEq] at hv
  subst h;subst hv
  exact ⟨[],rfl,rfl,rfl⟩
 | [],_ :: _,ls,vs,h,hv=>by simp [Za0] at h
 | none :: s,[],ls,vs,h,hv=>by simp [Za0] at h
 | some n :: s,[],ls,vs,h,hv=>by simp [Za0] at h
 | none :: s,x :: xs,ls,vs,h,hv=>by
  simp only [Za0,Option.map_eq_some_iff] at h
  obtain ⟨l,hl,rfl⟩:=h
  simp only [denL,Option.bind_eq_some_iff,Option.map_eq_some_iff] at hv
  obtain ⟨v,hv,vs',hvs,rfl⟩:=hv
  obtain ⟨us,h1,h2,rfl⟩:=Zbq s xs hl hvs
  exact ⟨v :: us,by simp [denL,hv,h1],by simp [shLen,h2],rfl⟩
 | some n :: s,x :: xs,ls,vs,h,hv=>by
  simp only [Za0,Option.bind_eq_some_iff] at h
  obtain ⟨cs,hcs,h⟩:=h
  cases hn:Nat.beq cs.length n with
  | false=>simp [hn] at h
  | true =>
   simp only [hn,cond_true,Option.map_eq_some_iff] at h
   obtain ⟨l,hl,rfl⟩:=h
   have hn':=Nat.eq_of_beq_eq_true hn
   simp only [denL,Option.bind_eq_some_iff,Option.map_eq_some_iff] at hv
   obtain ⟨v,hv,vs',hvs,rfl⟩:=hv
   obtain ⟨lv,rfl,hlv⟩:=Zh3 hcs hv
   obtain ⟨us,h1,h2,rfl⟩:=Zbq s xs hl hvs
   have hll:=Zab hlv
   refine ⟨lv++us,Zah hlv h1,by simp [shLen,h2];omega,?_⟩
   have:lv.length=n:=by omega
   simp [Za7,<- this]

def Zg6 (st:St):AV->Option (SX × Bool × Log)
 | .val (.slice none 0 0)=>some (.lit 0 [],true,Log.no)
 | .val v=>cond v.oneCell' (some (.con v,true,Log.no)) none
 | .sym e=>some (e,true,Log.no)
 | .dat r=>(st.heap.get r).bind fun o=>o.dat.map fun e=>(e,o.ro,Log.sees r)
 | _=>none
def May (W0:Base) (A:Nat->Prop) (m:Map) (st:St) (w:World) (k:Nat):Prop:=k < w.heap.size/\(W0.fp k \/ W0.heap.size<=k)/\Hangs A m st k
theorem Zhu {A:Nat->Prop} {m:Map} {st:St} {w:World} (hR:Rel W0 A m st.heap.get w) {x:AV} {e:SX} {ok:Bool} {lg:Log} {u:Value} (h:Zg6 st x=some (e,ok,lg)) (hA:lg.Fits W0 A) (hx:x.den m=some u) :
  ∃ p,e.ev W0.s W0.F=some p/\Reads w p u/\(ok=true->∀ w2:World,(∀ k,May W0 A m st w k->w2.heap[k]?=w.heap[k]?)->Reads w2 p u):=by
 have both:∀ {p:PV},(∀ w2:World,Reads w2 p u)->Reads w p u/\(ok=true->∀ w2:World,(∀ k,May W0 A m st w k->w2.heap[k]?=w.heap[k]?)->Reads w2 p u):=fun h=>⟨h w,fun _ w2 _=>h w2⟩
 unfold Zg6 at h
 split at h
 ·simp only [Option.some.injEq,Prod.mk.injEq] at h
  obtain ⟨rfl,rfl,rfl⟩:=h
  simp only [AV.den,Option.some.injEq] at hx
  subst hx
  exact ⟨.row 0 [],by simp [SX.ev,evs],both fun w2=>by simp only [Reads];exact ⟨none,0,rfl,Nat.le_refl _,Nat.zero_le _,.inl trivial⟩⟩
 ·rename_i v _
  simp only [AV.den,Option.some.injEq] at hx
  subst hx
  cases ho:v.oneCell' with
  | false=>simp [ho] at h
  | true =>
   simp only [ho,cond_true,Option.some.injEq,Prod.mk.injEq] at h
   obtain ⟨rfl,rfl,rfl⟩:=h
   exact ⟨.v v,by simp [SX.ev],both fun w2=>by simp [Reads,ho]⟩
 ·simp only [Option.some.injEq,Prod.mk.injEq] at h
  obtain ⟨rfl,rfl,rfl⟩:=h
  obtain ⟨h1,h2⟩:=Zg1 hR.sv hx
  exact ⟨.v u,h1,both fun w2=>by simp [Reads,h2]⟩
 ·rename_i r
  simp only [Option.bind_eq_some_iff,Option.map_eq_some_iff,Prod.mk.injEq] at h
  obtain ⟨o',ho',e',hr,rfl,rfl,rfl⟩:=h
  have ha:A r:=hA.1 r (by simp [Log.sees,Zac])
  obtain ⟨o,v,fp,p,ho,hd,hm,hone,hlt,hfb,hp,hrd⟩:=thing hR (Option.bind_eq_some_iff.2 ⟨o',ho',hr⟩) ha
  rw [ho'] at ho
  cases ho
  simp only [AV.den,hm,Option.bind_some,hone,cond_true,Option.some.injEq] at hx
  subst hx
  exact ⟨p,hp,hrd w (fun _ _=>rfl),fun hok w2 hw2=>hrd w2 (fun k hk=>hw2 k ⟨hlt k hk,hfb hok k hk,r,o',e',v,fp,ha,ho',hd,hm,hk⟩)⟩
 ·cases h
def Zen (st:St):List AV->Option (List SX × Bool × Log)
 | []=>some ([],true,Log.no)
 | x :: xs=>(Zg6 st x).bind fun (e,o1,l1)=>(Zen st xs).map fun (es,o2,l2)=>(e :: es,o1 && o2,l1.or l2)
theorem Zdv {A:Nat->Prop} {m:Map} {st:St} {w:World} (hR:Rel W0 A m st.heap.get w):∀ {xs:List AV} {es:List SX} {ok:Bool} {lg:Log} {us:List Value},Zen st xs=some (es,ok,lg)->lg.Fits W0 A->denL m xs=some us →
  ∃ ps,evs W0.s W0.F es=some ps/\ps.length=us.length/\∀ (i:Nat) (p:PV) (u:Value),ps[i]?=some p->us[i]?=some u->Reads w p u/\(ok=true->∀ w2:World,(∀ k,May W0 A m st w k->w2.heap[k]?=w.heap[k]?)->Reads w2 p u)
 | [],es,ok,lg,us,h,hA,hu=>by
  simp only [Zen,Option.some.injEq,Prod.mk.injEq] at h
  obtain ⟨rfl,rfl,rfl⟩:=h
  simp only [denL,Option.some.injEq] at hu
  subst hu
  exact ⟨[],rfl,rfl,fun i p u hp=>by simp at hp⟩
 | x :: xs,es,ok,lg,us,h,hA,hu=>by
  simp only [Zen,Option.bind_eq_some_iff,Option.map_eq_some_iff] at h
  obtain ⟨⟨e,o1,l1⟩,he,⟨es',o2,l2⟩,hes,h⟩:=h
  cases h
  simp only [denL,Option.bind_eq_some_iff,Option.map_eq_some_iff] at hu
  obtain ⟨v,hv,us',hus,rfl⟩:=hu
  obtain ⟨p,h1,h2,h2'⟩:=Zhu hR he (or_A hA).1 hv
  obtain ⟨ps,h3,h4,h5⟩:=Zdv hR hes (or_A hA).2 hus
  refine ⟨p :: ps,by simp [evs,h1,h3],by simp [h4],fun i q u hq hu=>?_⟩
  cases i with
  | zero=>simp at hq hu;subst hq;subst hu;exact ⟨h2,fun h=>h2' (by simp at h;exact h.1)⟩
  | succ i =>
   obtain ⟨h6,h7⟩:=h5 i q u (by simpa using hq) (by simpa using hu)
   exact ⟨h6,fun h=>h7 (by simp at h;exact h.2)⟩

def wantW (e len:SX):Log:=match e,len with
 | .var i,.len (.var j)=>cond (Nat.beq i j) Log.no (Zgh (.var i) (.len (.var j)))
 | e,len=>Zgh e len
theorem wantW_ok {A:Nat->Prop} {m:Map} {st:St} {w:World} (hR:Rel W0 A m st.heap.get w) {r v sz:Nat} {lo len e:SX} {el:TypeId} {u:Value} (hl:lookS st r v=some (e,el,sz)) (ha:A r) (hx:(AV.sliceS r v lo len sz).den m=some u) (hf:(wantW e len).Fits W0 A):(Fact.same len (.len e)).holds W0:=by
 unfold wantW at hf
 split at hf
 ·rename_i i j
  cases hij:Nat.beq i j with
  | false=>rw [hij] at hf;exact hf.2 _ (List.mem_singleton.2 rfl)
  | true =>
   have:=Nat.eq_of_beq_eq_true hij
   subst this
   obtain ⟨b,l,n,hb,h1,h2,_⟩:=Zao hR.sv hx
   obtain ⟨k,cs,c,fz,g1,_⟩:=Za3 hl hR ha hb
   exact ⟨k,Zbi g1,Zbi g1⟩
 ·exact hf.2 _ (List.mem_singleton.2 rfl)
theorem ownReads {A:Nat->Prop} {m:Map} {st:St} {w:World} (hR:Rel W0 A m st.heap.get w) {r v sz:Nat} {lo len e:SX} {el:TypeId} {u:Value} (hl:lookS st r v=some (e,el,sz)) (hc:isC0 lo=true) (ha:A r) (hf:(Fact.same len (.len e)).holds W0) (hx:(AV.sliceS r v lo len sz).den m=some u) :
  ∃ (b:Nat × Nat) (n:Nat) (cs:List PV),m r v=some b/\W0.ev e=some (.row n cs)/\u=.slice (some ⟨b.1,0,none⟩) n b.2/\W0.heap.size<=b.1/\b.1 < w.heap.size/\∀ w2:World,w2.heap[b.1]?=w.heap[b.1]?->Reads w2 (.row n cs) u:=by
 obtain ⟨n,f1,f2⟩:=hf
 obtain ⟨b,l,n',hb,h1,h2,rfl⟩:=Zao hR.sv hx
 rw [Zd4 hc] at h1
 rw [f1] at h2
 simp only [Option.some.injEq,PV.v.injEq,Value.int.injEq,true_and,Int.ofNat_inj] at h1 h2
 have hl0:l=0:=by omega
 subst hl0
 subst h2
 obtain ⟨o,ho,hs,hv,_,_,_,hlt0⟩:=Zez hl
 obtain ⟨k,cs,c,fz,g1,g2,g3,g4,g5,g6,g7,g8,g9⟩:=Za3 hl hR ha hb
 rw [Zbi g1] at f2
 simp only [Option.some.injEq,PV.v.injEq,Value.int.injEq,true_and,Int.ofNat_inj] at f2
 subst f2
 have hvm:(v,0) ∈ o.vers:=by rw [hv];simp
 refine ⟨b,k,cs,hb,g1,by rw [Nat.zero_mul,Nat.sub_zero],(hR.abv r o v 0 b ha ho hvm hb).1 hlt0,hR.lt ha ho hvm hb,fun w2 hw2=>?_⟩
 simp only [Reads]
 refine ⟨some ⟨b.1,0 * sz,none⟩,b.2 - 0,rfl,by omega,by omega,.inr ⟨b.1,0 * sz,rfl,Zav.of fun i p hp=>?_⟩⟩
 obtain ⟨x,rfl,hx1,hx2⟩:=g9 i p hp
 refine ⟨x,?_,by simp only [Reads];exact ⟨trivial,hx1⟩⟩
 simp only [World.cell?,hw2,g2,Nat.zero_mul,Nat.zero_add]
 exact hx2
theorem partReads {A:Nat->Prop} {m:Map} {st:St} {w:World} (hR:Rel W0 A m st.heap.get w) {r v sz:Nat} {lo len e:SX} {el:TypeId} {u:Value} (hl:lookS st r v=some (e,el,sz)) (ha:A r) (hf:(Fact.sub e lo (.bin .add lo len) sz).holds W0) (hf1:(Fact.upto lo 4294967296).holds W0) (hf2:(Fact.upto len 4294967296).holds W0) (hx:(AV.sliceS r v lo len sz).den m=some u) :
  ∃ (b:Nat × Nat) (p:PV),m r v=some b/\W0.ev (.sub e lo (.bin .add lo len) sz)=some p/\W0.heap.size<=b.1/\b.1 < w.heap.size/\∀ w2:World,w2.heap[b.1]?=w.heap[b.1]?->Reads w2 p u:=by
 obtain ⟨p,hp⟩:=hf
 obtain ⟨b,l,n',hb,h1,h2,rfl⟩:=Zao hR.sv hx
 obtain ⟨z1,f1,k1⟩:=hf1
 obtain ⟨z2,f2,k2⟩:=hf2
 rw [h1] at f1
 rw [h2] at f2
 simp only [Option.some.injEq,PV.v.injEq,Value.int.injEq,true_and,Int.ofNat_inj] at f1 f2
 subst f1
 subst f2
 obtain ⟨o,ho,hs,hv,_,_,_,hlt0⟩:=Zez hl
 obtain ⟨k,cs,c,fz,g1,g2,g3,g4,g5,g6,g7,g8,g9⟩:=Za3 hl hR ha hb
 have hvm:(v,0) ∈ o.vers:=by rw [hv];simp
 have hw:IntKind.i64.wrap ((l:Int)+(n':Int))=(l:Int)+(n':Int):=by
  exact IntWalk.i64_in _ ⟨by omega,by omega⟩
 have hp':=hp
 simp only [Base.ev] at g1 h1 h2
 simp only [Base.ev,SX.ev,g1,h1,h2,Option.bind_some,binPV,decide_true,cond_true,hw] at hp'
 simp only [subPV,cond_eq_ite,Bool.and_eq_true,decide_eq_true_eq] at hp'
 split at hp'
 ·rename_i hc
  simp only [Option.some.injEq] at hp'
  have e1:((l:Int)+(n':Int)).toNat - (l:Int).toNat=n':=by omega
  have e2:(l:Int).toNat=l:=by omega
  rw [e1,e2] at hp'
  subst hp'
  refine ⟨b,_,hb,hp,(hR.abv r o v 0 b ha ho hvm hb).1 hlt0,hR.lt ha ho hvm hb,fun w2 hw2=>?_⟩
  simp only [Reads]
  refine ⟨some ⟨b.1,l * sz,none⟩,b.2 - l,rfl,by omega,by omega,.inr ⟨b.1,l * sz,rfl,Zav.of fun i q hq=>?_⟩⟩
  rw [List.getElem?_take] at hq
  split at hq
  ·rw [List.getElem?_drop] at hq
   obtain ⟨x,rfl,hx1,hx2⟩:=g9 _ q hq
   refine ⟨x,?_,by simp only [Reads];exact ⟨trivial,hx1⟩⟩
   simp only [World.cell?,hw2,g2]
   exact hx2
  ·cases hq
 ·cases hp'
def Zlj (st:St):AV->Option (SX × Bool × Log)
 | .slice r v lo sz len cap opn=>(look st r v).bind fun (o,n)=>cond (Nat.ble (lo * sz+len * sz) n && (cond opn (o.opn && Nat.beq o.esz sz && Nat.blt 0 sz && Nat.ble cap lo) (Nat.ble len cap && Nat.ble cap 9223372036854775807)))
   ((Zen st (Zax o (lo * sz) (len * sz))).map fun (es,_,lg)=>(.lit len es,false,(Log.sees r).or lg)) none
 | .sliceS r v lo len sz=>(lookS st r v).bind fun (e,el,esz)=>cond (isC0 lo && Nat.beq sz esz) (some (e,false,(Log.sees r).or (wantW e len)))
   (cond (Nat.beq sz esz) (some (.sub e lo (.bin .add lo len) sz,false,(Log.sees r).or ((Log.says (.sub e lo (.bin .add lo len) sz)).or ((Log.says (.upto lo 4294967296)).or (Log.says (.upto len 4294967296)))))) none)
 | x=>Zg6 st x
theorem leafSX_ok {A:Nat->Prop} {m:Map} {st:St} {w:World} (hR:Rel W0 A m st.heap.get w) {x:AV} {e:SX} {ok:Bool} {lg:Log} {u:Value} (h:Zlj st x=some (e,ok,lg)) (hA:lg.Fits W0 A) (hx:x.den m=some u) :
  ∃ p,e.ev W0.s W0.F=some p/\Reads w p u/\(ok=true->∀ w2:World,(∀ k,May W0 A m st w k->w2.heap[k]?=w.heap[k]?)->Reads w2 p u):=by
 unfold Zlj at h
 split at h
 ·rename_i r v lo sz len cap opn
  simp only [Option.bind_eq_some_iff] at h
  obtain ⟨⟨o,n⟩,hlk,h⟩:=h
  obtain ⟨ho,hv⟩:=Zdp hlk
  cases hc:(Nat.ble (lo * sz+len * sz) n && (cond opn (o.opn && Nat.beq o.esz sz && Nat.blt 0 sz && Nat.ble cap lo) (Nat.ble len cap && Nat.ble cap 9223372036854775807))) with
  | false=>simp [hc] at h
  | true =>
   simp only [hc,cond_true,Option.map_eq_some_iff] at h
   obtain ⟨⟨es,ok',l1⟩,hes,h⟩:=h
   cases h
   have ha:A r:=(or_A hA).1.1 r (by simp [Log.sees,Zac])
   simp only [AV.den,Option.map_eq_some_iff] at hx
   obtain ⟨b,hb,rfl⟩:=hx
   obtain ⟨b',hb',hB⟩:=hR.blkC r o ha ho (Zc4 hlk) v n hv
   rw [hb] at hb';cases hb'
   simp only [Bool.and_eq_true,Nat.ble_eq] at hc
   have hB':=hB
   obtain ⟨c,fz,hcc,_,hnl,hnc,_,hsize⟩:=hB'
   obtain ⟨l,hd,hll,_,hcell⟩:=hB.cells (P:=(default:Program)) hc.1
   have hcap:len<=(cond opn (b.2 - cap) cap)/\(cond opn (b.2 - cap) cap)<=maxLen:=by
    cases opn with
    | false=>simp only [cond_false] at hc ⊢;simp only [Bool.and_eq_true,Nat.ble_eq] at hc;exact ⟨hc.2.1,hc.2.2⟩
    | true =>
     simp only [cond_true,Bool.and_eq_true,Nat.beq_eq,Nat.blt_eq,Nat.ble_eq] at hc ⊢
     obtain ⟨hc1,⟨⟨hop,hez⟩,hpos⟩,hcl⟩:=hc
     simp only [hop,cond_true,hez] at hsize
     have:(lo+len) * sz<=b.2 * sz:=by rw [Nat.add_mul];omega
     have:=Nat.le_of_mul_le_mul_right this hpos
     unfold maxLen
     omega
   obtain ⟨ps,h1,h2,h3⟩:=Zdv hR hes (or_A hA).2 hd
   refine ⟨.row len ps,by simp [SX.ev,h1],?_,fun h=>by cases h⟩
   simp only [Reads]
   refine ⟨some ⟨b.1,lo * sz,none⟩,_,rfl,hcap.1,hcap.2,.inr ⟨b.1,lo * sz,rfl,Zav.of fun i p hp=>?_⟩⟩
   have hi:i < l.length:=by rw [<- h2];exact (List.getElem?_eq_some_iff.1 hp).1
   exact ⟨l[i],hcell i _ (List.getElem?_eq_getElem hi),(h3 i p _ hp (List.getElem?_eq_getElem hi)).1⟩
 ·rename_i r v lo len sz
  simp only [Option.bind_eq_some_iff] at h
  obtain ⟨⟨e',el,esz⟩,hl,h⟩:=h
  simp only [cond_eq_ite,Bool.and_eq_true,Nat.beq_eq] at h
  split at h
  ·rename_i hc
   have hz:=hc.2
   subst hz
   cases h
   have ha:A r:=(or_A hA).1.1 r (by simp [Log.sees,Zac])
   obtain ⟨b,n,cs,h1,h2,h3,_,_,h4⟩:=ownReads hR hl hc.1 ha (wantW_ok hR hl ha hx (or_A hA).2) hx
   exact ⟨_,h2,h4 w rfl,fun h=>by cases h⟩
  ·split at h
   ·rename_i hz
    subst hz
    cases h
    have ha:A r:=(or_A hA).1.1 r (by simp [Log.sees,Zac])
    obtain ⟨b,p,h1,h2,h3,_,h4⟩:=partReads hR hl ha ((or_A (or_A hA).2).1.2 _ (List.mem_singleton.2 rfl)) ((or_A (or_A (or_A hA).2).2).1.2 _ (List.mem_singleton.2 rfl)) ((or_A (or_A (or_A hA).2).2).2.2 _ (List.mem_singleton.2 rfl)) hx
    exact ⟨p,h2,h4 w rfl,fun h=>by cases h⟩
   ·cases h
 ·exact Zhu hR h hA hx
def Zei (st:St):List AV->List Bool->Option (List SX × Log)
 | [],_=>some ([],Log.no)
 | x :: xs,lk=>(Zlj st x).bind fun (e,ok,l1)=>cond (ok || !(lk.headD false)) ((Zei st xs lk.tail).map fun (es,l2)=>(e :: es,l1.or l2)) none
theorem Zcx {A:Nat->Prop} {m:Map} {st:St} {w:World} (hR:Rel W0 A m st.heap.get w):∀ {xs:List AV} {lk:List Bool} {es:List SX} {lg:Log} {us:List Value},Zei st xs lk=some (es,lg)->lg.Fits W0 A->denL m xs=some us →
  ∃ ps,evs W0.s W0.F es=some ps/\ps.length=us.length/\∀ (i:Nat) (p:PV) (u:Value),ps[i]?=some p->us[i]?=some u->Reads w p u/\(lk.getD i false=true->∀ w2:World,(∀ k,May W0 A m st w k->w2.heap[k]?=w.heap[k]?)->Reads w2 p u)
 | [],lk,es,lg,us,h,hA,hu=>by
  simp only [Zei,Option.some.injEq,Prod.mk.injEq] at h
  obtain ⟨rfl,rfl⟩:=h
  simp only [denL,Option.some.injEq] at hu
  subst hu
  exact ⟨[],rfl,rfl,fun i p u hp=>by simp at hp⟩
 | x :: xs,lk,es,lg,us,h,hA,hu=>by
  simp only [Zei,Option.bind_eq_some_iff] at h
  obtain ⟨⟨e,ok,l1⟩,he,h⟩:=h
  cases hc:(ok || !(lk.headD false)) with
  | false=>simp only [hc,cond_false] at h;cases h
  | true =>
   simp only [hc,cond_true,Option.map_eq_some_iff] at h
   obtain ⟨⟨es',l2⟩,hes,h⟩:=h
   cases h
   simp only [denL,Option.bind_eq_some_iff,Option.map_eq_some_iff] at hu
   obtain ⟨v,hv,us',hus,rfl⟩:=hu
   obtain ⟨p,h1,h2,h2'⟩:=leafSX_ok hR he (or_A hA).1 hv
   obtain ⟨ps,h3,h4,h5⟩:=Zcx hR hes (or_A hA).2 hus
   refine ⟨p :: ps,by simp [evs,h1,h3],by simp [h4],fun i q u hq hu=>?_⟩
   cases i with
   | zero =>
    simp at hq hu
    subst hq;subst hu
    refine ⟨h2,fun hl=>h2' ?_⟩
    cases lk with
    | nil=>simp at hl
    | cons a lk=>simp at hl hc;subst hl;simpa using hc
   | succ i =>
    obtain ⟨h6,h7⟩:=h5 i q u (by simpa using hq) (by simpa using hu)
    refine ⟨h6,fun hl=>h7 ?_⟩
    cases lk with
    | nil=>simp at hl
    | cons a lk=>simpa using hl

def Zaf:List CK->Nat->List Nat
 | [],_=>[]
 | .row :: ks,j=>j :: Zaf ks (j+1)
 | _ :: ks,j=>Zaf ks (j+1)
def outD (g:Nat->SX):List CK->Nat->Nat->Nat->List Nat->Option (List AV × List Fact × List Nat × List (Nat × TypeId × Nat))
 | [],_,_,_,p=>some ([],[],p,[])
 | .row :: ks,j,nx,no,p=>(outD g ks (j+1) (nx+1) no p).map fun (cs,fs,p',os)=>(.dat nx :: cs,fs,p',os)
 | .num :: ks,j,nx,no,p=>(outD g ks (j+1) nx no p).map fun (cs,fs,p',os)=>(.sym (g j) :: cs,.ok (g j) :: fs,p',os)
 | .truth :: ks,j,nx,no,p=>match p with
  | b :: p=>(outD g ks (j+1) nx no p).map fun (cs,fs,p',os)=>(.val (.bool (Nat.beq b 1)) :: cs,.is (g j) (.bool (Nat.beq b 1)) :: fs,p',os)
  | []=>none
 | .own el sz false :: ks,j,nx,no,p=>(outD g ks (j+1) nx (no+1) p).map fun (cs,fs,p',os)=>(.sliceS no 0 c0 (.len (g j)) sz :: cs,fs,p',(j,el,sz) :: os)
 | .own el sz true :: ks,j,nx,no,p=>match p with
  | 0 :: p=>(outD g ks (j+1) nx no p).map fun (cs,fs,p',os)=>(.val (.slice none 0 0) :: cs,.is (.len (g j)) (.int .i64 0) :: fs,p',os)
  | (_+1) :: p=>(outD g ks (j+1) nx (no+1) p).map fun (cs,fs,p',os)=>(.sliceS no 0 c0 (.len (g j)) sz :: cs,.rng c0 (.len (g j)) :: fs,p',(j,el,sz) :: os)
  | []=>none
theorem Zbl:∀ (ks:List CK) (j x:Nat),x ∈ Zaf ks j->j<=x/\x < j+ks.length
 | [],j,x,h=>by simp [Zaf] at h
 | .row :: ks,j,x,h=>by
  rcases List.mem_cons.1 h with rfl | h
  ·simp
  ·have:=Zbl ks (j+1) x h;simp;omega
 | .num :: ks,j,x,h=>by have:=Zbl ks (j+1) x h;simp;omega
 | .truth :: ks,j,x,h=>by have:=Zbl ks (j+1) x h;simp;omega
 | .own _ _ _ :: ks,j,x,h=>by have:=Zbl ks (j+1) x h;simp;omega
theorem outD_os {g:Nat->SX}:∀ (ks:List CK) (j nx no:Nat) (p:List Nat) {cs:List AV} {fs:List Fact} {p':List Nat} {os:List (Nat × TypeId × Nat)},outD g ks j nx no p=some (cs,fs,p',os) →
  os.length<=ks.length/\(∀ (t x:Nat) (el:TypeId) (sz:Nat),os[t]?=some (x,el,sz)->j<=x/\∃ may,ks[x - j]?=some (.own el sz may)/\(may=true->Fact.rng c0 (.len (g x)) ∈ fs))/\∀ (t t' x x':Nat) (el el':TypeId) (sz sz':Nat),os[t]?=some (x,el,sz)->os[t']?=some (x',el',sz')->x=x'->t=t':=by
 have key:∀ (k:CK) (ks:List CK) (j:Nat) {fs1 fs:List Fact} {os:List (Nat × TypeId × Nat)},(os.length<=ks.length/\(∀ (t x:Nat) (el:TypeId) (sz:Nat),os[t]?=some (x,el,sz)->j+1<=x/\∃ may,ks[x - (j+1)]?=some (.own el sz may)/\(may=true->Fact.rng c0 (.len (g x)) ∈ fs1))/\∀ (t t' x x':Nat) (el el':TypeId) (sz sz':Nat),os[t]?=some (x,el,sz)->os[t']?=some (x',el',sz')->x=x'->t=t')->(∀ f ∈ fs1,f ∈ fs) →
   os.length<=(k :: ks).length/\(∀ (t x:Nat) (el:TypeId) (sz:Nat),os[t]?=some (x,el,sz)->j<=x/\∃ may,(k :: ks)[x - j]?=some (.own el sz may)/\(may=true->Fact.rng c0 (.len (g x)) ∈ fs))/\∀ (t t' x x':Nat) (el el':TypeId) (sz sz':Nat),os[t]?=some (x,el,sz)->os[t']?=some (x',el',sz')->x=x'->t=t':=by
  intro k ks j fs1 fs os h hs
  refine ⟨by have:=h.1;simp;omega,fun t x el sz ht=>?_,h.2.2⟩
  obtain ⟨h1,may,h2,h3⟩:=h.2.1 t x el sz ht
  exact ⟨by omega,may,by rw [show x - j=(x - (j+1))+1 by omega];simpa using h2,fun hm=>hs _ (h3 hm)⟩
 have key2:∀ (el0:TypeId) (sz0:Nat) (may0:Bool) (ks:List CK) (j:Nat) {fs1 fs:List Fact} {os:List (Nat × TypeId × Nat)},(os.length<=ks.length/\(∀ (t x:Nat) (el:TypeId) (sz:Nat),os[t]?=some (x,el,sz)->j+1<=x/\∃ may,ks[x - (j+1)]?=some (.own el sz may)/\(may=true->Fact.rng c0 (.len (g x)) ∈ fs1))/\∀ (t t' x x':Nat) (el el':TypeId) (sz sz':Nat),os[t]?=some (x,el,sz)->os[t']?=some (x',el',sz')->x=x'->t=t')->(∀ f ∈ fs1,f ∈ fs)->(may0=true->Fact.rng c0 (.len (g j)) ∈ fs) →
   ((j,el0,sz0) :: os).length<=(CK.own el0 sz0 may0 :: ks).length/\(∀ (t x:Nat) (el:TypeId) (sz:Nat),((j,el0,sz0) :: os)[t]?=some (x,el,sz)->j<=x/\∃ may,(CK.own el0 sz0 may0 :: ks)[x - j]?=some (.own el sz may)/\(may=true->Fact.rng c0 (.len (g x)) ∈ fs))/\∀ (t t' x x':Nat) (el el':TypeId) (sz sz':Nat),((j,el0,sz0) :: os)[t]?=some (x,el,sz)->((j,el0,sz0) :: os)[t']?=some (x',el',sz')->x=x'->t=t':=by
  intro el0 sz0 may0 ks j fs1 fs os h hs h0
  refine ⟨by have:=h.1;simp;omega,fun t x el sz ht=>?_,fun t t' x x' el el' sz sz' ht ht' hx=>?_⟩
  ·cases t with
   | zero =>
    simp only [List.getElem?_cons_zero,Option.some.injEq,Prod.mk.injEq] at ht
    obtain ⟨rfl,rfl,rfl⟩:=ht
    exact ⟨Nat.le_refl _,may0,by simp,h0⟩
   | succ t =>
    obtain ⟨h1,may,h2,h3⟩:=h.2.1 t x el sz (by simpa using ht)
    exact ⟨by omega,may,by rw [show x - j=(x - (j+1))+1 by omega];simpa using h2,fun hm=>hs _ (h3 hm)⟩
  ·cases t with
   | zero =>
    simp only [List.getElem?_cons_zero,Option.some.injEq,Prod.mk.injEq] at ht
    cases t' with
    | zero=>rfl
    | succ t' =>
     have:=(h.2.1 t' x' el' sz' (by simpa using ht')).1
     omega
   | succ t =>
    cases t' with
    | zero =>
     simp only [List.getElem?_cons_zero,Option.some.injEq,Prod.mk.injEq] at ht'
     have:=(h.2.1 t x el sz (by simpa using ht)).1
     omega
    | succ t'=>rw [h.2.2 t t' x x' el el' sz sz' (by simpa using ht) (by simpa using ht') hx]
 intro ks
 induction ks with
 | nil =>
  intro j nx no p cs fs p' os h
  simp only [outD,Option.some.injEq,Prod.mk.injEq] at h
  obtain ⟨_,_,_,rfl⟩:=h
  exact ⟨Nat.le_refl _,fun t x el sz ht=>by simp at ht,fun t t' x x' el el' sz sz' ht=>by simp at ht⟩
 | cons k ks ih =>
  intro j nx no p cs fs p' os h
  match k,p,h with
  | .row,p,h =>
   simp only [outD,Option.map_eq_some_iff] at h
   obtain ⟨⟨cs',fs',p1,os'⟩,h1,he⟩:=h
   cases he
   exact key _ _ _ (ih _ _ _ _ h1) (fun f hf=>hf)
  | .num,p,h =>
   simp only [outD,Option.map_eq_some_iff] at h
   obtain ⟨⟨cs',fs',p1,os'⟩,h1,he⟩:=h
   cases he
   exact key _ _ _ (ih _ _ _ _ h1) (fun f hf=>by simp [hf])
  | .truth,[],h=>simp [outD] at h
  | .truth,b :: p,h =>
   simp only [outD,Option.map_eq_some_iff] at h
   obtain ⟨⟨cs',fs',p1,os'⟩,h1,he⟩:=h
   cases he
   exact key _ _ _ (ih _ _ _ _ h1) (fun f hf=>by simp [hf])
  | .own el sz false,p,h =>
   simp only [outD,Option.map_eq_some_iff] at h
   obtain ⟨⟨cs',fs',p1,os'⟩,h1,he⟩:=h
   cases he
   exact key2 _ _ _ _ _ (ih _ _ _ _ h1) (fun f hf=>hf) (fun h=>by cases h)
  | .own el sz true,[],h=>simp [outD] at h
  | .own el sz true,0 :: p,h =>
   simp only [outD,Option.map_eq_some_iff] at h
   obtain ⟨⟨cs',fs',p1,os'⟩,h1,he⟩:=h
   cases he
   exact key _ _ _ (ih _ _ _ _ h1) (fun f hf=>by simp [hf])
  | .own el sz true,(b+1) :: p,h =>
   simp only [outD,Option.map_eq_some_iff] at h
   obtain ⟨⟨cs',fs',p1,os'⟩,h1,he⟩:=h
   cases he
   exact key2 _ _ _ _ _ (ih _ _ _ _ h1) (fun f hf=>by simp [hf]) (fun _=>by simp)
theorem Zee {m:Map} (hs:∀ e,m.s e=W0.sv e) {g:Nat->SX} {val:Nat->Value} {w:World}:∀ (ks:List CK) (j nx no:Nat) (p:List Nat) {cs:List AV} {fs:List Fact} {p':List Nat} {os:List (Nat × TypeId × Nat)},outD g ks j nx no p=some (cs,fs,p',os)->(∀ f ∈ fs,f.holds W0) →
  (∀ i,j<=i->i < j+ks.length->∃ q,W0.ev (g i)=some q/\Reads w q (val i))->(∀ q x,(Zaf ks j)[q]?=some x->∃ fp,m.d (nx+q)=some (val x,fp)) →
  (∀ (t x:Nat) (el:TypeId) (sz:Nat),os[t]?=some (x,el,sz)->∃ b cap n cs,m (no+t) 0=some (b,cap)/\W0.ev (g x)=some (.row n cs)/\val x=.slice (some ⟨b,0,none⟩) n cap) →
  (∀ i el sz,j<=i->ks[i - j]?=some (.own el sz true)->W0.ev (.len (g i))=some (.v (.int .i64 0))->val i=.slice none 0 0)->denL m cs=some ((List.range' j ks.length).map val)
 | [],j,nx,no,p,cs,fs,p',os,h,_,_,_,_,_=>by
  simp only [outD,Option.some.injEq,Prod.mk.injEq] at h
  obtain ⟨rfl,_⟩:=h
  rfl
 | .row :: ks,j,nx,no,p,cs,fs,p',os,h,hf,hv,hd,ho,hn=>by
  simp only [outD,Option.map_eq_some_iff] at h
  obtain ⟨⟨cs',fs',p1,os'⟩,h1,he⟩:=h
  cases he
  have ih:=Zee hs ks (j+1) (nx+1) no p h1 hf (fun i h1 h2=>hv i (by omega) (by simp;omega)) (fun q x hq=>by
   have:=hd (q+1) x (by simpa [Zaf] using hq)
   rwa [show nx+(q+1)=nx+1+q by omega] at this) ho (fun i el sz hi hk=>hn i el sz (by omega) (by rw [show i - j=(i - (j+1))+1 by omega];simpa using hk))
  obtain ⟨fp,hfp⟩:=hd 0 j (by simp [Zaf])
  obtain ⟨q,_,hq⟩:=hv j (Nat.le_refl _) (by simp)
  rw [Nat.add_zero] at hfp
  simp [denL,AV.den,hfp,hq.one,ih,List.range'_succ]
 | .num :: ks,j,nx,no,p,cs,fs,p',os,h,hf,hv,hd,ho,hn=>by
  simp only [outD,Option.map_eq_some_iff] at h
  obtain ⟨⟨cs',fs',p1,os'⟩,h1,he⟩:=h
  cases he
  have ih:=Zee hs ks (j+1) nx no p h1 (fun f h=>hf f (by simp [h])) (fun i h1 h2=>hv i (by omega) (by simp;omega)) (fun q x hq=>hd q x (by simpa [Zaf] using hq)) ho (fun i el sz hi hk=>hn i el sz (by omega) (by rw [show i - j=(i - (j+1))+1 by omega];simpa using hk))
  obtain ⟨x,hx,ho⟩:=hf (.ok (g j)) (by simp)
  obtain ⟨q,hq1,hq⟩:=hv j (Nat.le_refl _) (by simp)
  rw [hx] at hq1
  cases hq1
  simp only [Reads] at hq
  rw [denL,Zbs hs hx ho]
  simp [ih,List.range'_succ,hq.1]
 | .truth :: ks,j,nx,no,[],cs,fs,p',os,h,hf,hv,hd,ho,hn=>by simp [outD] at h
 | .truth :: ks,j,nx,no,b :: p,cs,fs,p',os,h,hf,hv,hd,ho,hn=>by
  simp only [outD,Option.map_eq_some_iff] at h
  obtain ⟨⟨cs',fs',p1,os'⟩,h1,he⟩:=h
  cases he
  have ih:=Zee hs ks (j+1) nx no p h1 (fun f h=>hf f (by simp [h])) (fun i h1 h2=>hv i (by omega) (by simp;omega)) (fun q x hq=>hd q x (by simpa [Zaf] using hq)) ho (fun i el sz hi hk=>hn i el sz (by omega) (by rw [show i - j=(i - (j+1))+1 by omega];simpa using hk))
  have hx:W0.ev (g j)=some (.v (.bool (Nat.beq b 1))):=hf (.is (g j) (.bool (Nat.beq b 1))) (by simp)
  obtain ⟨q,hq1,hq⟩:=hv j (Nat.le_refl _) (by simp)
  rw [hx] at hq1
  cases hq1
  simp only [Reads] at hq
  simp [denL,AV.den,ih,List.range'_succ,hq.1]
 | .own el sz false :: ks,j,nx,no,p,cs,fs,p',os,h,hf,hv,hd,ho,hn=>by
  simp only [outD,Option.map_eq_some_iff] at h
  obtain ⟨⟨cs',fs',p1,os'⟩,h1,he⟩:=h
  cases he
  have ih:=Zee hs ks (j+1) nx (no+1) p h1 hf (fun i h1 h2=>hv i (by omega) (by simp;omega)) (fun q x hq=>hd q x (by simpa [Zaf] using hq)) (fun t x el sz ht=>by
   have:=ho (t+1) x el sz (by simpa using ht)
   rwa [show no+(t+1)=no+1+t by omega] at this) (fun i el sz hi hk=>hn i el sz (by omega) (by rw [show i - j=(i - (j+1))+1 by omega];simpa using hk))
  obtain ⟨b,cap,n,cs2,g1,g2,g3⟩:=ho 0 j el sz rfl
  rw [Nat.add_zero] at g1
  have:=Ze8 (W0:=W0) (m:=m) (r:=no) (v:=0) (b:=(b,cap)) (lo:=c0) (len:=.len (g j)) (l:=0) (sz:=sz) hs g1 rfl (Zbi g2)
  simp only [Nat.zero_mul,Nat.sub_zero] at this
  rw [denL,this]
  simp [ih,List.range'_succ,g3]
 | .own el sz true :: ks,j,nx,no,[],cs,fs,p',os,h,hf,hv,hd,ho,hn=>by simp [outD] at h
 | .own el sz true :: ks,j,nx,no,0 :: p,cs,fs,p',os,h,hf,hv,hd,ho,hn=>by
  simp only [outD,Option.map_eq_some_iff] at h
  obtain ⟨⟨cs',fs',p1,os'⟩,h1,he⟩:=h
  cases he
  have ih:=Zee hs ks (j+1) nx no p h1 (fun f h=>hf f (by simp [h])) (fun i h1 h2=>hv i (by omega) (by simp;omega)) (fun q x hq=>hd q x (by simpa [Zaf] using hq)) ho (fun i el sz hi hk=>hn i el sz (by omega) (by rw [show i - j=(i - (j+1))+1 by omega];simpa using hk))
  have hx:W0.ev (.len (g j))=some (.v (.int .i64 0)):=hf (.is (.len (g j)) (.int .i64 0)) (by simp)
  have:=hn j el sz (Nat.le_refl _) (by simp) hx
  simp [denL,AV.den,ih,List.range'_succ,this]
 | .own el sz true :: ks,j,nx,no,(b+1) :: p,cs,fs,p',os,h,hf,hv,hd,ho,hn=>by
  simp only [outD,Option.map_eq_some_iff] at h
  obtain ⟨⟨cs',fs',p1,os'⟩,h1,he⟩:=h
  cases he
  have ih:=Zee hs ks (j+1) nx (no+1) p h1 (fun f h=>hf f (by simp [h])) (fun i h1 h2=>hv i (by omega) (by simp;omega)) (fun q x hq=>hd q x (by simpa [Zaf] using hq)) (fun t x el sz ht=>by
   have:=ho (t+1) x el sz (by simpa using ht)
   rwa [show no+(t+1)=no+1+t by omega] at this) (fun i el sz hi hk=>hn i el sz (by omega) (by rw [show i - j=(i - (j+1))+1 by omega];simpa using hk))
  obtain ⟨b,cap,n,cs2,g1,g2,g3⟩:=ho 0 j el sz rfl
  rw [Nat.add_zero] at g1
  have:=Ze8 (W0:=W0) (m:=m) (r:=no) (v:=0) (b:=(b,cap)) (lo:=c0) (len:=.len (g j)) (l:=0) (sz:=sz) hs g1 rfl (Zbi g2)
  simp only [Nat.zero_mul,Nat.sub_zero] at this
  rw [denL,this]
  simp [ih,List.range'_succ,g3]
def Zcm:Sh->List AV->List AV
 | none :: s,u :: us=>u :: Zcm s us
 | some n :: s,us=>.agg (us.take n) :: Zcm s (us.drop n)
 | _,_=>[]
theorem Zdm {m:Map}:∀ (s:Sh) (xs:List AV) {us:List Value},denL m xs=some us->us.length=shLen s->denL m (Zcm s xs)=some (Za7 s us)
 | [],xs,us,h,hl=>by
  have:us=[]:=List.eq_nil_of_length_eq_zero (by simpa [shLen] using hl)
  subst this
  have:=Zab h
  have:xs=[]:=List.eq_nil_of_length_eq_zero (by simpa using this.symm)
  subst this
  rfl
 | none :: s,[],us,h,hl=>by
  simp only [denL,Option.some.injEq] at h
  subst h
  simp [shLen] at hl
 | none :: s,x :: xs,us,h,hl=>by
  simp only [denL,Option.bind_eq_some_iff,Option.map_eq_some_iff] at h
  obtain ⟨v,hv,us',hus,rfl⟩:=h
  simp [Zcm,Za7,denL,hv,Zdm s xs hus (by simpa [shLen] using hl)]
 | some n :: s,xs,us,h,hl=>by
  have ih:=Zdm s (xs.drop n) (Zcl n h) (by simp [shLen] at hl ⊢;omega)
  simp [Zcm,Za7,denL,AV.den,Zck n h,ih]
def Zfn (s:Sh) (xs:List AV):AV:=match Zcm s xs with | [x]=>x | xs=>.tuple xs
theorem Zdx {m:Map} {s:Sh} {xs:List AV} {us:List Value} (h:denL m xs=some us) (hl:us.length=shLen s):(Zfn s xs).den m=some (Zeq s us):=by
 have h1:=Zdm s xs h hl
 unfold Zfn Zeq
 generalize Zcm s xs=ys at *
 generalize Za7 s us=vs at *
 have hlen:=Zab h1
 match ys,vs,hlen with
 | [],[],_=>rfl
 | [y],[v],_ =>
  simp only [denL,Option.bind_eq_some_iff,Option.map_eq_some_iff] at h1
  obtain ⟨v',hv,b,hb,he⟩:=h1
  cases he
  exact hv
 | y1 :: y2 :: ys,v1 :: v2 :: vs,_=>simp only [AV.den,h1,Option.map_some]

def Zgi:List (SX × TypeId × Nat)->Nat->T ARoot->T ARoot
 | [],_,h=>h
 | R :: Rs,n,h=>Zgi Rs (n+1) (T.set 24 h n (some (Zai R.1 R.2.1 R.2.2 0)))
theorem newOwns_get:∀ (Rs:List (SX × TypeId × Nat)) (n:Nat) (h:T ARoot) (r:Nat),n+Rs.length < 16777215->(¬ (n<=r/\r < n+Rs.length))->(Zgi Rs n h).get r=h.get r
 | [],n,h,r,_,_=>rfl
 | R :: Rs,n,h,r,hb,hr=>by
  simp only [List.length_cons] at hb hr
  rw [Zgi,newOwns_get Rs (n+1) _ r (by omega) (by omega),T.get_set _ _ _ _ _ (show n+1 < 16777216 by omega),if_neg (by omega)]
def St.owns (st:St) (es:List (SX × TypeId × Nat)):St:={ st with heap:=Zgi es st.next st.heap,next:=st.next+es.length }
theorem adoptS {A Tc:Nat->Prop} {m m1:Map} {g g1:Heap} {w w1:World} {r:Nat} {e:SX} {el:TypeId} {sz:Nat} {b:Nat × Nat} (S:Step W0 A Tc m g w m1 g1 w1) (hr1:∀ v,m1 r v=none) (hrow:RowAt W0 w1 (Zai e el sz 0) b e) (hb:w.heap.size<=b.1) (h0:W0.heap.size<=w.heap.size)
  (hno:∀ r' o v n b',A r'->g1 r'=some o->(v,n) ∈ o.vers->m1 r' v=some b'->b'.1 ≠ b.1) (hnd:∀ r' o R v fp,A r'->g1 r'=some o->o.dat=some R->m1.d r'=some (v,fp)->¬ fp b.1) :
  Step W0 A (fun k=>Tc k \/ k=r) m g w (m1.new r b) (g1.upd r (Zai e el sz 0)) w1:=by
 have hle:m1.Le (m1.new r b):=⟨fun k v x hx=>by
  show (if k=r/\v=0 then some b else m1 k v)=some x
  split
  ·rename_i h;rw [h.1,hr1 v] at hx;cases hx
  ·exact hx,fun _ _ h=>h,fun _ _ h=>h⟩
 have hmk:∀ k,k ≠ r->∀ v,(m1.new r b) k v=m1 k v:=fun k hk v=>by simp [Map.new,hk]
 have hmr:∀ v x,(m1.new r b) r v=some x->v=0/\x=b:=fun v x hx=>by
  by_cases hv:v=0
  ·subst hv;simp [Map.new] at hx;exact ⟨rfl,hx.symm⟩
  ·simp [Map.new,hv,hr1] at hx
 have hup:∀ k o,(g1.upd r (Zai e el sz 0)) k=some o->(k=r/\o=Zai e el sz 0) \/ (k ≠ r/\g1 k=some o):=fun k o ho=>by
  by_cases hk:k=r
  ·simp [Heap.upd,hk] at ho;exact .inl ⟨hk,ho.symm⟩
  ·simp [Heap.upd,hk] at ho;exact .inr ⟨hk,ho⟩
 have hR:=S.rel
 refine ⟨S.ext.trans hle,⟨?_,?_,?_,hR.size0,hR.amb,?_,?_,?_,hR.sv,hR.same,?_,?_⟩,fun k hk v=>?_,fun k hk=>S.dkeep k (fun h=>hk (.inl h)),fun k hk=>?_,S.os,S.tape,S.output,S.size,?_,?_,?_⟩
 ·intro k o hA ho v n hv
  rcases hup k o ho with ⟨rfl,rfl⟩ | ⟨hk,ho1⟩
  ·simp only [Zai,List.mem_singleton,Prod.mk.injEq] at hv
   obtain ⟨rfl,rfl⟩:=hv
   exact ⟨b,by simp [Map.new],hrow.blk⟩
  ·obtain ⟨b',hb',hB⟩:=hR.blk k o hA ho1 v n hv
   exact ⟨b',hle.1 _ _ _ hb',hB.mono hle rfl⟩
 ·intro k k' o o' v n v' n' b1 b2 hA hA' ho ho' hv hv' hb1 hb2 he
  rcases hup k o ho with ⟨rfl,rfl⟩ | ⟨hk,ho1⟩
  ·rcases hup k' o' ho' with ⟨rfl,rfl⟩ | ⟨hk',ho2⟩
   ·rfl
   ·exfalso
    obtain ⟨_,rfl⟩:=hmr v b1 hb1
    rw [hmk k' hk'] at hb2
    exact hno k' o' v' n' b2 hA' ho2 hv' hb2 he.symm
  ·rw [hmk k hk] at hb1
   rcases hup k' o' ho' with ⟨rfl,rfl⟩ | ⟨hk',ho2⟩
   ·exfalso
    obtain ⟨_,rfl⟩:=hmr v' b2 hb2
    exact hno k o v n b1 hA ho1 hv hb1 he
   ·rw [hmk k' hk'] at hb2
    exact hR.inj k k' o o' v n v' n' b1 b2 hA hA' ho1 ho2 hv hv' hb1 hb2 he
 ·intro k o v n rest hA ho hv v' hlt
  rcases hup k o ho with ⟨rfl,rfl⟩ | ⟨hk,ho1⟩
  ·have:¬ v'=0:=by omega
   simp [Map.new,this,hr1]
  ·rw [hmk k hk];exact hR.top k o v n rest hA ho1 hv v' hlt
 ·intro k o v n b1 hA ho hv hb1
  rcases hup k o ho with ⟨rfl,rfl⟩ | ⟨hk,ho1⟩
  ·obtain ⟨_,rfl⟩:=hmr v b1 hb1
   exact ⟨fun _=>Nat.le_trans h0 hb,fun h=>by cases h⟩
  ·rw [hmk k hk] at hb1;exact hR.abv k o v n b1 hA ho1 hv hb1
 ·intro k o R hA ho hd
  rcases hup k o ho with ⟨rfl,rfl⟩ | ⟨hk,ho1⟩
  ·cases hd
  ·exact hR.dat k o R hA ho1 hd
 ·intro k o R v fp k' o' u n b1 hA hA' ho hd hm ho' hu hb1 hfp
  rcases hup k o ho with ⟨rfl,rfl⟩ | ⟨hk,ho1⟩
  ·cases hd
  ·rcases hup k' o' ho' with ⟨rfl,rfl⟩ | ⟨hk',ho2⟩
   ·obtain ⟨_,rfl⟩:=hmr u b1 hb1
    exact hnd k o R v fp hA ho1 hd hm hfp
   ·rw [hmk k' hk'] at hb1
    exact hR.disj k o R v fp k' o' u n b1 hA hA' ho1 hd hm ho2 hu hb1 hfp
 ·intro k o R v fp hA ho hd hm
  rcases hup k o ho with ⟨rfl,rfl⟩ | ⟨hk,ho1⟩
  ·cases hd
  ·exact hR.fpb k o R v fp hA ho1 hd hm
 ·intro k o R v n b1 hA ho hs hv hb1
  rcases hup k o ho with ⟨rfl,rfl⟩ | ⟨hk,ho1⟩
  ·simp only [Zai,Option.some.injEq] at hs
   subst hs
   obtain ⟨_,rfl⟩:=hmr v b1 hb1
   exact hrow
  ·rw [hmk k hk] at hb1
   exact hR.row k o R v n b1 hA ho1 hs hv hb1
 ·have hk':k ≠ r:=fun h=>hk (.inr h)
  rw [hmk k hk'];exact S.mkeep k (fun h=>hk (.inl h)) v
 ·have hk':k ≠ r:=fun h=>hk (.inr h)
  simp only [Heap.upd,hk',if_false];exact S.gk k (fun h=>hk (.inl h))
 ·intro k hk hno'
  exact S.keep k hk (fun r' o v n b' ht=>hno' r' o v n b' (.inl ht))
 ·intro k o v n b1 ht ho hv hb1 hlt
  rcases hup k o ho with ⟨rfl,rfl⟩ | ⟨hk,ho1⟩
  ·obtain ⟨_,rfl⟩:=hmr v b1 hb1
   omega
  ·rw [hmk k hk] at hb1
   exact S.own k o v n b1 (ht.resolve_right hk) ho1 hv hb1 hlt
 ·intro k o R v fp hA ht ho hd hm q hq hlt
  rcases hup k o ho with ⟨rfl,rfl⟩ | ⟨hk,ho1⟩
  ·cases hd
  ·exact S.dfp k o R v fp hA (ht.resolve_right hk) ho1 hd hm q hq hlt
theorem adopts {A:Nat->Prop} {m:Map} {g:Heap} {w w1:World} (h0:W0.heap.size<=w.heap.size):∀ (es:List (SX × TypeId × Nat)) (bs:List (Nat × Nat)) {Tc:Nat->Prop} {m1:Map} {st1:St},bs.length=es.length->Step W0 A Tc m g w m1 st1.heap.get w1->Fresh A m1 st1.next->st1.next+es.length < 16777215->(∀ r,st1.next<=r->r < st1.next+es.length->A r) →
  (∀ (i:Nat) (e:SX × TypeId × Nat) (b:Nat × Nat),es[i]?=some e->bs[i]?=some b->RowAt W0 w1 (Zai e.1 e.2.1 e.2.2 0) b e.1/\w.heap.size<=b.1)->(∀ (i j:Nat) (bi bj:Nat × Nat),bs[i]?=some bi->bs[j]?=some bj->bi.1=bj.1->i=j) →
  (∀ r' o v n b',A r'->st1.heap.get r'=some o->(v,n) ∈ o.vers->m1 r' v=some b'->∀ b ∈ bs,b'.1 ≠ b.1)->(∀ r' o R v fp,A r'->st1.heap.get r'=some o->o.dat=some R->m1.d r'=some (v,fp)->∀ b ∈ bs,¬ fp b.1) →
  ∃ m2,Step W0 A (fun k=>Tc k \/ (st1.next<=k/\k < st1.next+es.length)) m g w m2 (st1.owns es).heap.get w1/\Fresh A m2 (st1.owns es).next/\m1.Le m2/\(∀ e,m2.s e=m1.s e)/\m2.d=m1.d/\∀ i b,bs[i]?=some b->m2 (st1.next+i) 0=some b
 | [],bs,Tc,m1,st1,hl,S,hF,_,_,_,_,_,_=>by
  have:bs=[]:=List.eq_nil_of_length_eq_zero hl
  subst this
  exact ⟨m1,S.more (fun k hk=>.inl hk),by simpa [St.owns] using hF,Map.Le.refl _,fun _=>rfl,rfl,fun i b hb=>by simp at hb⟩
 | e :: es,[],Tc,m1,st1,hl,S,hF,hlt,hA,hrow,hd,hno,hnd=>by simp at hl
 | e :: es,b :: bs,Tc,m1,st1,hl,S,hF,hlt,hA,hrow,hd,hno,hnd=>by
  simp only [List.length_cons] at hlt hA hl
  have ha:A st1.next:=hA _ (Nat.le_refl _) (by omega)
  obtain ⟨r1,r2⟩:=hrow 0 e b rfl rfl
  have S1:=adoptS S (hF st1.next ha (Nat.le_refl _)).1 r1 r2 h0 (fun r' o v n b' ha' ho hv hb'=>hno r' o v n b' ha' ho hv hb' b (by simp)) (fun r' o R v fp ha' ho hd' hm=>hnd r' o R v fp ha' ho hd' hm b (by simp))
  let st2:St:={ st1 with heap:=T.set 24 st1.heap st1.next (some (Zai e.1 e.2.1 e.2.2 0)),next:=st1.next+1 }
  have hg2:st2.heap.get=Heap.upd st1.heap.get st1.next (Zai e.1 e.2.1 e.2.2 0):=by
   funext k
   show (T.set 24 st1.heap st1.next _).get k=_
   rw [T.get_set _ _ _ _ _ (by omega)]
   rfl
  rw [<- hg2] at S1
  have hF2:Fresh A (m1.new st1.next b) st2.next:=fun r hr hr'=>by
   have hr2:st1.next+1<=r:=hr'
   have h:=hF r hr (by omega)
   have hne:¬ r=st1.next:=by omega
   exact ⟨fun v=>by simp [Map.new,hne,h.1 v],h.2⟩
  have hmr:∀ v x,(m1.new st1.next b) st1.next v=some x->x=b:=fun v x hx=>by
   by_cases hv:v=0
   ·subst hv;simp [Map.new] at hx;exact hx.symm
   ·simp [Map.new,hv,(hF st1.next ha (Nat.le_refl _)).1] at hx
  have hup:∀ k o,st2.heap.get k=some o->(k=st1.next/\o=Zai e.1 e.2.1 e.2.2 0) \/ (k ≠ st1.next/\st1.heap.get k=some o):=fun k o ho=>by
   rw [hg2] at ho
   by_cases hk:k=st1.next
   ·simp [Heap.upd,hk] at ho;exact .inl ⟨hk,ho.symm⟩
   ·simp [Heap.upd,hk] at ho;exact .inr ⟨hk,ho⟩
  have hbne:∀ b' ∈ bs,b.1 ≠ b'.1:=fun b' hb' he=>by
   obtain ⟨j,hj⟩:=List.getElem?_of_mem hb'
   have:=hd 0 (j+1) b b' rfl (by simpa using hj) he
   omega
  obtain ⟨m2,S2,F2,L2,s2,d2,at2⟩:=adopts h0 es bs (Tc:=fun k=>Tc k \/ k=st1.next) (m1:=m1.new st1.next b) (st1:=st2) (by omega) S1 hF2 (by show st1.next+1+es.length < _;omega) (fun r h1 h2=>hA r (by have:st1.next+1<=r:=h1;omega) (by have:r < st1.next+1+es.length:=h2;omega))
   (fun i e' b' he hb=>hrow (i+1) e' b' (by simpa using he) (by simpa using hb)) (fun i j bi bj hi hj he=>by have:=hd (i+1) (j+1) bi bj (by simpa using hi) (by simpa using hj) he;omega)
   (fun r' o v n b' ha' ho hv hb' b2 hb2=>by
    rcases hup r' o ho with ⟨rfl,rfl⟩ | ⟨hk,ho⟩
    ·rw [hmr v b' hb'];exact hbne b2 hb2
    ·have:(m1.new st1.next b) r' v=m1 r' v:=by simp [Map.new,hk]
     rw [this] at hb'
     exact hno r' o v n b' ha' ho hv hb' b2 (by simp [hb2]))
   (fun r' o R v fp ha' ho hd' hm b2 hb2=>by
    rcases hup r' o ho with ⟨rfl,rfl⟩ | ⟨hk,ho⟩
    ·cases hd'
    ·exact hnd r' o R v fp ha' ho hd' hm b2 (by simp [hb2]))
  have hle1:m1.Le (m1.new st1.next b):=⟨fun k v x hx=>by
   show (if k=st1.next/\v=0 then some b else m1 k v)=some x
   split
   ·rename_i h;rw [h.1,(hF st1.next ha (Nat.le_refl _)).1 v] at hx;cases hx
   ·exact hx,fun _ _ h=>h,fun _ _ h=>h⟩
  have hst:(st1.owns (e :: es))=st2.owns es:=by simp only [St.owns,Zgi,st2,List.length_cons,St.mk.injEq,true_and,and_true];omega
  refine ⟨m2,?_,by rw [hst];exact F2,hle1.trans L2,s2,d2,fun i b' hb'=>?_⟩
  ·rw [hst]
   refine S2.more (fun k hk=>?_)
   have e2:st2.next=st1.next+1:=rfl
   rw [e2] at hk
   simp only [List.length_cons]
   rcases hk with (hk | hk) | hk
   ·exact .inl hk
   ·exact .inr ⟨by omega,by omega⟩
   ·exact .inr ⟨by omega,by omega⟩
  ·cases i with
   | zero =>
    simp only [List.getElem?_cons_zero,Option.some.injEq] at hb'
    subst hb'
    exact L2.1 _ _ _ (by simp [Map.new])
   | succ i =>
    have:=at2 i b' (by simpa using hb')
    rwa [show st2.next+i=st1.next+(i+1) by show st1.next+1+i=_;omega] at this

def resSt (st:St) (g:Nat->SX) (ks:List CK) (p':List Nat) (os:List (Nat × TypeId × Nat)):St:=(St.dats { st with path:=p' } ((Zaf ks 0).map fun j=>(g j,true))).owns (os.map fun o=>(g o.1,o.2.1,o.2.2))
def Zbt (st:St) (ks:List CK) (os:List (Nat × TypeId × Nat)):Nat:=Zat st.next ((Zaf ks 0).length+os.length)
theorem Zec:∀ (ks:List CK) (j x:Nat),x ∈ Zaf ks j->ks[x - j]?=some .row
 | [],j,x,h=>by simp [Zaf] at h
 | .row :: ks,j,x,h=>by
  rcases List.mem_cons.1 h with rfl | h
  ·simp
  ·have h1:=Zbl ks (j+1) x h
   rw [show x - j=(x - (j+1))+1 by omega]
   simpa using Zec ks (j+1) x h
 | .num :: ks,j,x,h=>by
  have h1:=Zbl ks (j+1) x h
  rw [show x - j=(x - (j+1))+1 by omega]
  simpa using Zec ks (j+1) x h
 | .truth :: ks,j,x,h=>by
  have h1:=Zbl ks (j+1) x h
  rw [show x - j=(x - (j+1))+1 by omega]
  simpa using Zec ks (j+1) x h
 | .own _ _ _ :: ks,j,x,h=>by
  have h1:=Zbl ks (j+1) x h
  rw [show x - j=(x - (j+1))+1 by omega]
  simpa using Zec ks (j+1) x h
theorem results {A:Nat->Prop} {m:Map} {st:St} {w w1:World} (hR:Rel W0 A m st.heap.get w) (hF:Fresh A m st.next) (hex:Ex w w1) {ks:List CK} {g:Nat->SX} {us:List Value} {qs:List PV} {ow:Nat->Option Nat} {cs:List AV} {fs:List Fact} {p':List Nat} {os:List (Nat × TypeId × Nat)}
  (hul:us.length=ks.length) (hql:qs.length=ks.length) (hev:∀ i q,qs[i]?=some q->W0.ev (g i)=some q) (how:Owns w w1 ks qs us ow)
  (hrd:∀ (i:Nat) (q:PV) (u:Value),qs[i]?=some q->us[i]?=some u->∀ w2:World,(∀ k,May W0 A m st w k \/ (w.heap.size<=k/\k < w1.heap.size)->(∀ j,j ≠ i->ow j ≠ some k)->w2.heap[k]?=w1.heap[k]?)->Reads w2 q u)
  (hout:outD g ks 0 st.next (st.next+(Zaf ks 0).length) st.path=some (cs,fs,p',os)) (hfs:∀ f ∈ fs,f.holds W0) (hsm:st.next+(Zaf ks 0).length+os.length < 16777215) (hA:∀ r,bit (Zbt st ks os) r->A r) :
  ∃ m',Step W0 A (bit (Zbt st ks os)) m st.heap.get w m' (resSt st g ks p' os).heap.get w1/\Fresh A m' (resSt st g ks p' os).next/\denL m' cs=some us:=by
 obtain ⟨d1,d2,d3⟩:=outD_os ks 0 _ _ _ hout
 have hbit:∀ r,bit (Zbt st ks os) r ↔ (st.next<=r/\r < st.next+((Zaf ks 0).length+os.length)):=fun r=>Zaz _ _ _
 have hq':∀ i,i < ks.length->∃ q u,qs[i]?=some q/\us[i]?=some u/\us.getD i undef=u:=fun i hi=>by
  have h1:i < qs.length:=by omega
  have h2:i < us.length:=by omega
  exact ⟨qs[i],us[i],List.getElem?_eq_getElem h1,List.getElem?_eq_getElem h2,by simp [List.getD,h2]⟩
 have hrowNo:∀ x,x ∈ Zaf ks 0->ow x=none:=fun x hx=>by
  cases h:ow x with
  | none=>rfl
  | some b =>
   obtain ⟨el,sz,may,q,u,h1,_⟩:=how.at' x b h
   have:=Zec ks 0 x hx
   rw [Nat.sub_zero,h1] at this
   cases this
 obtain ⟨m1,hok,hd1,hd2⟩:=Zgv (st:={ st with path:=p' }) (lg:=⟨0,Zat st.next (Zaf ks 0).length,[]⟩) hR hF hex ((Zaf ks 0).map fun j=>(g j,true)) ((Zaf ks 0).map fun i=>us.getD i undef)
  (fun _ k=>May W0 A m st w k \/ ((w.heap.size<=k/\k < w1.heap.size)/\∀ j,ow j ≠ some k)) (by simp) (by simp) (by simp;omega) (fun k k1 k2=>hA k ((hbit k).2 ⟨k1,by simp at k2;omega⟩)) (by
   intro i e u he hu
   rw [List.getElem?_map,Option.map_eq_some_iff] at he hu
   obtain ⟨x,hx,rfl⟩:=he
   obtain ⟨y,hy,rfl⟩:=hu
   rw [hx] at hy
   cases hy
   have hxm:=List.mem_of_getElem? hx
   have hxl:=(Zbl ks 0 x hxm).2
   obtain ⟨q,u,g1,g2,g3⟩:=hq' x (by omega)
   have hq:=hrd x q u g1 g2
   rw [g3]
   refine ⟨(hq w1 (fun _ _ _=>rfl)).one,?_,fun w2 hw2=>⟨q,hev x q g1,hq w2 (fun k hk hne=>hw2 k ?_)⟩⟩
   ·rintro k (hk | ⟨hk,_⟩)
    ·exact ⟨Nat.lt_of_lt_of_le hk.1 hex.size,fun _=>hk.2.1,fun _=>hk.2.2⟩
    ·exact ⟨hk.2,fun _=>.inr (Nat.le_trans hR.size0 hk.1),fun hlt=>absurd hk.1 (by omega)⟩
   ·rcases hk with hk | hk
    ·exact .inl hk
    ·refine .inr ⟨hk,fun j=>?_⟩
     by_cases hj:j=x
     ·rw [hj,hrowNo x hxm];simp
     ·exact hne j hj)
 have hblk:∀ (t x:Nat) (el:TypeId) (sz:Nat),os[t]?=some (x,el,sz)->∃ b n cap cs2,ow x=some b/\qs[x]?=some (.row n cs2)/\us[x]?=some (.slice (some ⟨b,0,none⟩) n cap)/\OwnAt w w1 el sz b (.row n cs2) (.slice (some ⟨b,0,none⟩) n cap):=fun t x el sz ht=>by
  obtain ⟨_,may,h1,h2⟩:=d2 t x el sz ht
  rw [Nat.sub_zero] at h1
  cases h:ow x with
  | none =>
   exfalso
   obtain ⟨h3,h4,h5⟩:=how.no x el sz may h1 h
   obtain ⟨k,z,mm,f1,f2,f3,f4⟩:=hfs _ (h2 h3)
   have:=Zbi (hev x _ h5)
   rw [f2] at this
   have f1':some (PV.v (.int .i64 0))=some (PV.v (.int k z)):=f1
   simp only [Option.some.injEq,PV.v.injEq,Value.int.injEq,true_and] at this f1'
   omega
  | some b =>
   obtain ⟨el',sz',may',q,u,h3,h4,h5,h6,_⟩:=how.at' x b h
   rw [h1] at h3
   cases h3
   have h6':=h6
   obtain ⟨_,_,n,cap,cs2,c,fz,rfl,rfl,_⟩:=h6
   exact ⟨b,n,cap,cs2,rfl,h4,h5,h6'⟩
 let bs:List (Nat × Nat):=os.map fun o=>((ow o.1).getD 0,match us.getD o.1 undef with | .slice _ _ cap=>cap | _=>0)
 have hbs:∀ (t x:Nat) (el:TypeId) (sz:Nat),os[t]?=some (x,el,sz)->∃ b n cap cs2,bs[t]?=some (b,cap)/\ow x=some b/\qs[x]?=some (.row n cs2)/\us[x]?=some (.slice (some ⟨b,0,none⟩) n cap)/\OwnAt w w1 el sz b (.row n cs2) (.slice (some ⟨b,0,none⟩) n cap):=fun t x el sz ht=>by
  obtain ⟨b,n,cap,cs2,h1,h2,h3,h4⟩:=hblk t x el sz ht
  refine ⟨b,n,cap,cs2,?_,h1,h2,h3,h4⟩
  simp only [bs,List.getElem?_map,ht,Option.map_some,h1,Option.getD_some,List.getD,h3]
 have hbsOf:∀ b' ∈ bs,∃ x b,ow x=some b/\b'.1=b/\w.heap.size<=b:=fun b' hb'=>by
  obtain ⟨t,ht⟩:=List.getElem?_of_mem hb'
  have hto:t < os.length:=by
   have:=(List.getElem?_eq_some_iff.1 ht).1
   simpa [bs] using this
  obtain ⟨b,n,cap,cs2,h1,h2,_,_,h5⟩:=hbs t _ _ _ (List.getElem?_eq_getElem hto)
  rw [ht] at h1
  cases h1
  exact ⟨_,b,h2,rfl,h5.1⟩
 have hnx:(St.dats { st with path:=p' } ((Zaf ks 0).map fun j=>(g j,true))).next=st.next+(Zaf ks 0).length:=by simp [St.dats]
 obtain ⟨m2,S2,F2,L2,s2,dd2,at2⟩:=adopts (W0:=W0) (A:=A) (m:=m) (g:=st.heap.get) (w:=w) (w1:=w1) hR.size0 (os.map fun o=>(g o.1,o.2.1,o.2.2)) bs (by simp [bs]) hok.step hok.fresh (by rw [hnx];simp;omega) (fun r h1 h2=>hA r ((hbit r).2 (by rw [hnx] at h1 h2;simp at h2;omega)))
  (fun i e b he hb=>by
   rw [List.getElem?_map,Option.map_eq_some_iff] at he
   obtain ⟨⟨x,el,sz⟩,hx,rfl⟩:=he
   obtain ⟨b1,n,cap,cs2,h1,h2,h3,h4,h5⟩:=hbs i x el sz hx
   rw [hb] at h1
   cases h1
   obtain ⟨k1,k2,n',cap',cs',c,fz,e1,e2,k3,k4,k5,k6,k7,k8,k9,k10⟩:=h5
   simp only [PV.row.injEq] at e1
   simp only [Value.slice.injEq,true_and] at e2
   obtain ⟨rfl,rfl⟩:=e1
   obtain ⟨_,rfl⟩:=e2
   exact ⟨⟨n,cs2,c,fz,hev x _ h3,k3,k4,k5,k6,k7,k8,k9,k10⟩,k1⟩)
  (fun i j bi bj hi hj he=>by
   have hil:i < os.length:=by have:=(List.getElem?_eq_some_iff.1 hi).1;simpa [bs] using this
   have hjl:j < os.length:=by have:=(List.getElem?_eq_some_iff.1 hj).1;simpa [bs] using this
   obtain ⟨b1,_,_,_,h1,h2,_⟩:=hbs i _ _ _ (List.getElem?_eq_getElem hil)
   obtain ⟨b2,_,_,_,h3,h4,_⟩:=hbs j _ _ _ (List.getElem?_eq_getElem hjl)
   rw [hi] at h1
   rw [hj] at h3
   cases h1
   cases h3
   simp only at he
   subst he
   exact d3 i j _ _ _ _ _ _ (List.getElem?_eq_getElem hil) (List.getElem?_eq_getElem hjl) (how.inj _ _ _ h2 h4))
  (fun r' o v n b' ha' ho hv hb' b2 hb2 he=>by
   obtain ⟨x,b,h1,h2,h3⟩:=hbsOf b2 hb2
   have hr':st.heap.get r'=some o:=by
    by_cases hr:st.next<=r'/\r' < st.next+(Zaf ks 0).length
    ·exfalso
     have ho':(Za4 ((Zaf ks 0).map fun j=>(g j,true)) st.next st.heap).get r'=some o:=ho
     rw [Zbc _ _ _ _ (by simp;omega),if_pos (by simpa using hr),Option.map_eq_some_iff] at ho'
     obtain ⟨R,_,rfl⟩:=ho'
     simp [Zb9] at hv
    ·have ho':(Za4 ((Zaf ks 0).map fun j=>(g j,true)) st.next st.heap).get r'=some o:=ho
     rwa [Zbc _ _ _ _ (by simp;omega),if_neg (by simpa using hr)] at ho'
   obtain ⟨b0,hb0,_⟩:=hR.blk r' o ha' hr' v n hv
   have:=hok.step.ext.1 _ _ _ hb0
   rw [hb'] at this
   cases this
   have:=hR.lt ha' hr' hv hb0
   omega)
  (fun r' o R v fp ha' ho hd' hm b2 hb2 hfp=>by
   obtain ⟨x,b,h1,h2,h3⟩:=hbsOf b2 hb2
   have ho':(Za4 ((Zaf ks 0).map fun j=>(g j,true)) st.next st.heap).get r'=some o:=ho
   by_cases hr:st.next<=r'/\r' < st.next+(Zaf ks 0).length
   ·have hi:r' - st.next < (Zaf ks 0).length:=by omega
    have:=hd1 (r' - st.next) (us.getD ((Zaf ks 0)[r' - st.next]) undef) (by rw [List.getElem?_map,List.getElem?_eq_getElem hi];rfl)
    simp only [show st.next+(r' - st.next)=r' by omega] at this
    rw [hm] at this
    cases this
    rcases hfp with hk | ⟨_,hk⟩
    ·have:=hk.1;omega
    ·exact hk x (by rw [h1,h2])
   ·rw [Zbc _ _ _ _ (by simp;omega),if_neg (by simpa using hr)] at ho'
    have hm0:m.d r'=some (v,fp):=by
     have hk:=hok.step.dkeep r' (fun h=>hr ((Zaz _ _ _).1 h))
     rw [<- hk];exact hm
    obtain ⟨v',fp',hm',_,hlt,_⟩:=hR.dat r' o R ha' ho' hd'
    rw [hm0] at hm'
    cases hm'
    have:=hlt _ hfp
    omega)
 have hden:=Zee (W0:=W0) (w:=w1) (m:=m2) (val:=fun i=>us.getD i undef) (fun e=>by rw [s2];exact hok.rel.sv e) ks 0 st.next _ st.path hout hfs (fun i _ hi=>by
   obtain ⟨q,u,g1,g2,g3⟩:=hq' i (by omega)
   exact ⟨q,hev i q g1,by simp only [g3];exact hrd i q u g1 g2 w1 (fun _ _ _=>rfl)⟩)
  (fun q x hq=>⟨_,by rw [dd2];exact hd1 q _ (by rw [List.getElem?_map,hq];rfl)⟩)
  (fun t x el sz ht=>by
   obtain ⟨b,n,cap,cs2,h1,h2,h3,h4,_⟩:=hbs t x el sz ht
   refine ⟨b,cap,n,cs2,?_,hev x _ h3,by simp [List.getD,h4]⟩
   have:=at2 t _ h1
   rwa [hnx] at this)
  (fun i el sz _ hk h0=>by
   rw [Nat.sub_zero] at hk
   cases h:ow i with
   | none =>
    obtain ⟨_,h4,_⟩:=how.no i el sz true hk h
    simp [List.getD,h4]
   | some b =>
    exfalso
    obtain ⟨el',sz',may',q,u,h3,h4,h5,h6,h7⟩:=how.at' i b h
    rw [hk] at h3
    cases h3
    obtain ⟨n,cs2,rfl⟩:=h7 rfl
    have:=Zbi (hev i _ h4)
    rw [h0] at this
    simp only [Option.some.injEq,PV.v.injEq,Value.int.injEq,true_and] at this
    omega)
 have hus':(List.range' 0 ks.length).map (fun i=>us.getD i undef)=us:=by
  apply List.ext_getElem?
  intro i
  by_cases hi:i < us.length
  ·rw [List.getElem?_map,List.getElem?_range' (by omega)]
   simp [List.getD,hi]
  ·rw [List.getElem?_eq_none (by simp;omega),List.getElem?_eq_none (by omega)]
 rw [hus'] at hden
 refine ⟨m2,S2.more (fun k hk=>(hbit k).2 ?_),F2,hden⟩
 rcases hk with hk | hk
 ·have:=(Zaz _ _ _).1 hk
  omega
 ·rw [hnx] at hk
  simp at hk
  omega

def Zju (f:FuncId) (E:FnE) (args:List AV) (st:St):Option (ARet × St × Log):=(Za0 E.ins args).bind fun ls=>(Zei st ls E.leaks).bind fun (es,lA)=>(outD (.fn E.k es) E.kinds 0 st.next (st.next+(Zaf E.kinds 0).length) st.path).bind fun (cs,fs,p',os) =>
 cond (Nat.blt (st.next+(Zaf E.kinds 0).length+os.length) 16777215 && Nat.beq E.kinds.length (shLen E.outs))
  (some (.ret (Zfn E.outs cs),resSt st (.fn E.k es) E.kinds p' os,⟨lA.A ||| Zbt st E.kinds os,Zbt st E.kinds os,.fn f E es :: (lA.V++fs)⟩)) none
def orcFn (tab:FuncId->Option FnE):Orc:=fun f args st=>(tab f).bind fun E=>Zju f E args st
theorem Zds:∀ (ks:List CK) (j:Nat),(Zaf ks j).length<=ks.length
 | [],j=>Nat.le_refl _
 | .row :: ks,j=>by simp [Zaf,Zds ks]
 | .num :: ks,j=>by have:=Zds ks (j+1);simp [Zaf];omega
 | .truth :: ks,j=>by have:=Zds ks (j+1);simp [Zaf];omega
 | .own _ _ _ :: ks,j=>by have:=Zds ks (j+1);simp [Zaf];omega
theorem callFn_ok {f:FuncId} {E:FnE} {args:List AV} {st st':St} {r:ARet} {lg:Log} (hr:Zju f E args st=some (r,st',lg)) (W0:Base) (A:Nat->Prop) (m:Map) (w:World) (vs:List Value) (hA:lg.Fits W0 A) (hR:Rel W0 A m st.heap.get w) (hF:Fresh A m st.next) (hvs:denL m args=some vs) :
  Calls Try.prog f vs.toArray w (CPost W0 A m st w r st' lg):=by
 simp only [Zju,Option.bind_eq_some_iff] at hr
 obtain ⟨ls,hls,⟨es,lA⟩,hes,⟨cs,fs,p',os⟩,hout,hr⟩:=hr
 cases hc:(Nat.blt (st.next+(Zaf E.kinds 0).length+os.length) 16777215 && Nat.beq E.kinds.length (shLen E.outs)) with
 | false=>simp [hc] at hr
 | true =>
  simp only [hc,cond_true,Option.some.injEq,Prod.mk.injEq] at hr
  obtain ⟨rfl,rfl,rfl⟩:=hr
  simp only [Bool.and_eq_true,Nat.blt_eq,Nat.beq_eq] at hc
  have hlA:lA.Fits W0 A:=⟨fun r hr=>hA.1 r (Zaj hr),fun f hf=>hA.2 f (by simp [hf])⟩
  obtain ⟨us,hus,hul,rfl⟩:=Zbq E.ins args hls hvs
  obtain ⟨ps,hps,hpl,hrd⟩:=Zcx hR hes hlA hus
  obtain ⟨htold,ps',qs,hps',hqs⟩:=hA.2 (.fn f E es) (by simp)
  rw [hps] at hps'
  cases hps'
  refine (htold w (May W0 A m st w) us ps qs hqs hpl.symm (by omega) (fun k hk=>hk.1) hrd).mono ?_
  rintro e w' ⟨us',ow,h1,h2,how,h3,rfl,hex⟩
  obtain ⟨m',S,F',hden⟩:=results hR hF hex (g:=.fn E.k es) (by omega) (by omega) (fun i q hq=>by simp [Base.ev,SX.ev,hps,hqs,hq]) how h3 hout (fun f hf=>hA.2 f (by simp [hf])) hc.1 (fun r hr=>hA.1 r (Zam hr))
  exact ⟨m',⟨S,F'⟩,_,Zdx hden (by omega),rfl⟩
theorem Zew {st:St} {g:Nat->SX} {ks:List CK} {p':List Nat} {os:List (Nat × TypeId × Nat)} {lg:Log} (hsm:st.next+(Zaf ks 0).length+os.length < 16777215) (h:∀ r,bit (Zbt st ks os) r->bit lg.T r):Gk st (resSt st g ks p' os) lg:=by
 intro r hr
 have hr':¬ (st.next<=r/\r < st.next+((Zaf ks 0).length+os.length)):=fun h'=>hr (h r ((Zaz _ _ _).2 h'))
 show (Zgi _ (st.next+((Zaf ks 0).map fun j=>(g j,true)).length) (Za4 _ st.next st.heap)).get r=_
 rw [newOwns_get _ _ _ _ (by simp;omega) (by simp;omega),Zbc _ _ _ _ (by simp;omega),if_neg (by simp;omega)]
theorem callFn_gk {f:FuncId} {E:FnE} {args:List AV} {st st':St} {r:ARet} {lg:Log} (hr:Zju f E args st=some (r,st',lg)):Gk st st' lg:=by
 simp only [Zju,Option.bind_eq_some_iff] at hr
 obtain ⟨ls,hls,⟨es,lA⟩,hes,⟨cs,fs,p',os⟩,hout,hr⟩:=hr
 cases hc:(Nat.blt (st.next+(Zaf E.kinds 0).length+os.length) 16777215 && Nat.beq E.kinds.length (shLen E.outs)) with
 | false=>simp [hc] at hr
 | true =>
  simp only [hc,cond_true,Option.some.injEq,Prod.mk.injEq] at hr
  obtain ⟨rfl,rfl,rfl⟩:=hr
  simp only [Bool.and_eq_true,Nat.blt_eq,Nat.beq_eq] at hc
  exact Zew hc.1 (fun r hr=>hr)
theorem Zaw (tab:FuncId->Option FnE):OrcOk Try.prog (orcFn tab):=by
 refine ⟨?_,?_⟩
 ·intro f args st r st' lg hr W0 A m w vs hA hR hF hvs
  simp only [orcFn,Option.bind_eq_some_iff] at hr
  obtain ⟨E,hE,hr⟩:=hr
  exact callFn_ok hr W0 A m w vs hA hR hF hvs
 ·intro f args st r st' lg hr
  simp only [orcFn,Option.bind_eq_some_iff] at hr
  obtain ⟨E,hE,hr⟩:=hr
  exact callFn_gk hr
end Go.Proofs.Ytcaclmdkhffegaa.eng
end

section
/- The engine: a contract out of a run. -/
namespace Go.Proofs.Ytcaclmdkhffegaa.eng
open Go Go.RowKit
variable {W0 : Base}
set_option linter.unusedVariables false
set_option linter.unusedSimpArgs false

theorem Zfh:∀ (s:Sh) (xs:List AV) {ls:List AV},Za0 s xs=some ls->s.length=xs.length
 | [],[],ls,h=>rfl
 | [],_ :: _,ls,h=>by simp [Za0] at h
 | none :: s,[],ls,h=>by simp [Za0] at h
 | some n :: s,[],ls,h=>by simp [Za0] at h
 | none :: s,x :: xs,ls,h=>by
  simp only [Za0,Option.map_eq_some_iff] at h
  obtain ⟨l,hl,rfl⟩:=h
  simp [Zfh s xs hl]
 | some n :: s,x :: xs,ls,h=>by
  simp only [Za0,Option.bind_eq_some_iff] at h
  obtain ⟨cs,hcs,h⟩:=h
  cases hn:Nat.beq cs.length n with
  | false=>simp [hn] at h
  | true =>
   simp only [hn,cond_true,Option.map_eq_some_iff] at h
   obtain ⟨l,hl,rfl⟩:=h
   simp [Zfh s xs hl]
def Ziy (s:Sh) (y:AV):Option (List AV):=match s,y with
 | [_],y=>some [y]
 | _,.tuple cs=>some cs
 | _,.val (.tuple vs)=>some (vs.toList.map .val)
 | _,_=>none
theorem Zix {m:Map} {s:Sh} {y:AV} {ys ls:List AV} {v:Value} (h:Ziy s y=some ys) (hv:y.den m=some v) (hl:Za0 s ys=some ls):∃ us,denL m ls=some us/\us.length=shLen s/\v=Zeq s us:=by
 have hlen:=Zfh s ys hl
 have key:∀ vs:List Value,denL m ys=some vs->(vs.length ≠ 1->v=.tuple vs.toArray)->(∀ u,vs=[u]->v=u)->∃ us,denL m ls=some us/\us.length=shLen s/\v=Zeq s us:=by
  intro vs hvs h1 h2
  obtain ⟨us,g1,g2,g3⟩:=Zbq s ys hl hvs
  refine ⟨us,g1,g2,?_⟩
  unfold Zeq
  rw [<- g3]
  match vs,h1,h2 with
  | [],h1,_=>exact h1 (by simp)
  | [u],_,h2=>exact h2 u rfl
  | a :: b :: c,h1,_=>exact h1 (by simp)
 unfold Ziy at h
 split at h
 ·simp only [Option.some.injEq] at h
  subst h
  exact key [v] (by simp [denL,hv]) (fun h=>absurd rfl h) (fun u hu=>by simpa using hu)
 ·rename_i s1 cs hne
  simp only [Option.some.injEq] at h
  subst h
  simp only [AV.den,Option.map_eq_some_iff] at hv
  obtain ⟨vs,hvs,rfl⟩:=hv
  refine key vs hvs (fun _=>rfl) (fun u hu=>?_)
  exfalso
  have:=Zab hvs
  rw [hu] at this
  match s,hlen,hne with
  | [],hlen,_=>simp at hlen this;omega
  | [x],_,hne=>exact hne x rfl
  | _ :: _ :: _,hlen,_=>simp at hlen this;omega
 ·rename_i s1 vs hne
  simp only [Option.some.injEq] at h
  subst h
  simp only [AV.den,Option.some.injEq] at hv
  subst hv
  refine key vs.toList (Za8 m _) (fun _=>by simp) (fun u hu=>?_)
  exfalso
  simp only [List.length_map] at hlen
  rw [hu] at hlen
  match s,hlen,hne with
  | [],hlen,_=>simp at hlen
  | [x],_,hne=>exact hne x rfl
  | _ :: _ :: _,hlen,_=>simp at hlen
 ·cases h

def resSX (st:St):AV->Option (SX × Log)
 | .slice r v lo sz len cap opn=>(look st r v).bind fun (o,n)=>cond (!o.lent && Nat.ble (lo * sz+len * sz) n && (cond opn (o.opn && Nat.beq o.esz sz && Nat.blt 0 sz && Nat.ble cap lo) (Nat.ble len cap && Nat.ble cap 9223372036854775807)))
   ((Zen st (Zax o (lo * sz) (len * sz))).bind fun (es,ok,lg)=>cond ok (some (.lit len es,(Log.sees r).or lg)) none) none
 | .sliceS r v lo len sz=>(lookS st r v).bind fun (e,el,esz)=>cond (isC0 lo && Nat.beq sz esz) (some (e,(Log.sees r).or (wantW e len)))
   (cond (Nat.beq sz esz) (some (.sub e lo (.bin .add lo len) sz,(Log.sees r).or ((Log.says (.sub e lo (.bin .add lo len) sz)).or ((Log.says (.upto lo 4294967296)).or (Log.says (.upto len 4294967296)))))) none)
 | x=>(Zg6 st x).bind fun (e,ok,lg)=>cond ok (some (e,lg)) none
def Mine (W0:Base) (w:World) (k:Nat):Prop:=k < w.heap.size/\(W0.fp k \/ W0.heap.size<=k)
def rootOf:AV->Option Nat | .slice r ..=>some r | .sliceS r ..=>some r | _=>none
def Zlx (A:Nat->Prop) (m:Map) (st:St) (x:AV) (k:Nat):Prop:=∀ r' o v n (b:Nat × Nat),A r'->st.heap.get r'=some o->(v,n) ∈ o.vers->m r' v=some b->b.1=k->rootOf x=some r'
theorem may_noRoot {A:Nat->Prop} {m:Map} {st:St} {w:World} (hR:Rel W0 A m st.heap.get w) {k:Nat} (h:May W0 A m st w k) (x:AV):Zlx A m st x k:=fun r' o v n b ha ho hv hb he=>by
 obtain ⟨r3,o3,e3,v3,fp3,a3,h3,d3,m3,k3⟩:=h.2.2
 exact absurd (he ▸ k3) (hR.disj r3 o3 e3 v3 fp3 r' o v n b a3 ha h3 d3 m3 ho hv hb)
theorem resSX_ok {A:Nat->Prop} {m:Map} {st:St} {w:World} (hR:Rel W0 A m st.heap.get w) {x:AV} {e:SX} {lg:Log} {u:Value} (h:resSX st x=some (e,lg)) (hA:lg.Fits W0 A) (hx:x.den m=some u) :
  ∃ p,e.ev W0.s W0.F=some p/\∀ w2:World,(∀ k,Mine W0 w k->Zlx A m st x k->w2.heap[k]?=w.heap[k]?)->Reads w2 p u:=by
 unfold resSX at h
 split at h
 ·rename_i r v lo sz len cap opn
  simp only [Option.bind_eq_some_iff] at h
  obtain ⟨⟨o,n⟩,hlk,h⟩:=h
  obtain ⟨ho,hv⟩:=Zdp hlk
  cases hc:(!o.lent && Nat.ble (lo * sz+len * sz) n && (cond opn (o.opn && Nat.beq o.esz sz && Nat.blt 0 sz && Nat.ble cap lo) (Nat.ble len cap && Nat.ble cap 9223372036854775807))) with
  | false=>simp [hc] at h
  | true =>
   simp only [hc,cond_true,Option.bind_eq_some_iff] at h
   obtain ⟨⟨es,ok,l1⟩,hes,h⟩:=h
   cases ok with
   | false=>simp at h
   | true =>
    simp only [cond_true,Option.some.injEq,Prod.mk.injEq] at h
    obtain ⟨rfl,rfl⟩:=h
    have ha:A r:=(or_A hA).1.1 r (by simp [Log.sees,Zac])
    simp only [AV.den,Option.map_eq_some_iff] at hx
    obtain ⟨b,hb,rfl⟩:=hx
    obtain ⟨b',hb',hB⟩:=hR.blkC r o ha ho (Zc4 hlk) v n hv
    rw [hb] at hb';cases hb'
    simp only [Bool.and_eq_true,Nat.ble_eq,Bool.not_eq_true'] at hc
    obtain ⟨⟨hlt0,hc1⟩,hc2⟩:=hc
    have hc:lo * sz+len * sz<=n/\_:=⟨hc1,hc2⟩
    have hB':=hB
    obtain ⟨c,fz,hcc,_,hnl,hnc,_,hsize⟩:=hB'
    obtain ⟨l,hd,hll,_,hcell⟩:=hB.cells (P:=(default:Program)) hc.1
    have hcap:len<=(cond opn (b.2 - cap) cap)/\(cond opn (b.2 - cap) cap)<=maxLen:=by
     cases opn with
     | false=>simp only [cond_false] at hc ⊢;simp only [Bool.and_eq_true,Nat.ble_eq] at hc;exact ⟨hc.2.1,hc.2.2⟩
     | true =>
      simp only [cond_true,Bool.and_eq_true,Nat.beq_eq,Nat.blt_eq,Nat.ble_eq] at hc ⊢
      obtain ⟨hc1,⟨⟨hop,hez⟩,hpos⟩,hcl⟩:=hc
      simp only [hop,cond_true,hez] at hsize
      have:(lo+len) * sz<=b.2 * sz:=by rw [Nat.add_mul];omega
      have:=Nat.le_of_mul_le_mul_right this hpos
      unfold maxLen
      omega
    obtain ⟨ps,h1,h2,h3⟩:=Zdv hR hes (or_A hA).2 hd
    refine ⟨.row len ps,by simp [SX.ev,h1],fun w2 hw2=>?_⟩
    have hbm:w2.heap[b.1]?=w.heap[b.1]?:=hw2 b.1 ⟨hR.lt ha ho hv hb,.inr ((hR.abv r o v n b ha ho hv hb).1 hlt0)⟩ (fun r' o' v' n' b' ha' ho' hv' hb' he=>by rw [hR.inj r' r o' o v' n' v n b' b ha' ha ho' ho hv' hv hb' hb he];rfl)
    simp only [Reads]
    refine ⟨some ⟨b.1,lo * sz,none⟩,_,rfl,hcap.1,hcap.2,.inr ⟨b.1,lo * sz,rfl,Zav.of fun i p hp=>?_⟩⟩
    have hi:i < l.length:=by rw [<- h2];exact (List.getElem?_eq_some_iff.1 hp).1
    refine ⟨l[i],?_,(h3 i p _ hp (List.getElem?_eq_getElem hi)).2 rfl w2 (fun k hk=>hw2 k ⟨hk.1,hk.2.1⟩ (may_noRoot hR hk _))⟩
    rw [<- hcell i _ (List.getElem?_eq_getElem hi)]
    simp only [World.cell?,hbm]
 ·rename_i r v lo len sz
  simp only [Option.bind_eq_some_iff] at h
  obtain ⟨⟨e',el,esz⟩,hl,h⟩:=h
  simp only [cond_eq_ite,Bool.and_eq_true,Nat.beq_eq] at h
  split at h
  ·rename_i hc
   have hz:=hc.2
   subst hz
   cases h
   have ha:A r:=(or_A hA).1.1 r (by simp [Log.sees,Zac])
   obtain ⟨b,n,cs,h1,h2,h3,h5,h6,h4⟩:=ownReads hR hl hc.1 ha (wantW_ok hR hl ha hx (or_A hA).2) hx
   obtain ⟨o,ho,_,hvs,_⟩:=Zez hl
   exact ⟨_,h2,fun w2 hw2=>h4 w2 (hw2 b.1 ⟨h6,.inr h5⟩ (fun r' o' v' n' b' ha' ho' hv' hb' he=>by rw [hR.inj r' r o' o v' n' v 0 b' b ha' ha ho' ho hv' (by rw [hvs];exact List.mem_singleton.2 rfl) hb' h1 he];rfl))⟩
  ·split at h
   ·rename_i hz
    subst hz
    cases h
    have ha:A r:=(or_A hA).1.1 r (by simp [Log.sees,Zac])
    have hA2:=(or_A hA).2
    obtain ⟨b,p,h1,h2,h5,h6,h4⟩:=partReads hR hl ha ((or_A hA2).1.2 _ (List.mem_singleton.2 rfl)) ((or_A (or_A hA2).2).1.2 _ (List.mem_singleton.2 rfl)) ((or_A (or_A hA2).2).2.2 _ (List.mem_singleton.2 rfl)) hx
    obtain ⟨o,ho,_,hvs,_⟩:=Zez hl
    exact ⟨_,h2,fun w2 hw2=>h4 w2 (hw2 b.1 ⟨h6,.inr h5⟩ (fun r' o' v' n' b' ha' ho' hv' hb' he=>by rw [hR.inj r' r o' o v' n' v 0 b' b ha' ha ho' ho hv' (by rw [hvs];exact List.mem_singleton.2 rfl) hb' h1 he];rfl))⟩
   ·cases h
 ·simp only [Option.bind_eq_some_iff] at h
  obtain ⟨⟨e',ok,l1⟩,he,h⟩:=h
  cases ok with
  | false=>simp at h
  | true =>
   simp only [cond_true,Option.some.injEq,Prod.mk.injEq] at h
   obtain ⟨rfl,rfl⟩:=h
   obtain ⟨p,h1,_,h2⟩:=Zhu hR he hA hx
   exact ⟨p,h1,fun w2 hw2=>h2 rfl w2 (fun k hk=>hw2 k ⟨hk.1,hk.2.1⟩ (may_noRoot hR hk _))⟩
def Zhp (st:St):List AV->Option (List SX × Log)
 | []=>some ([],Log.no)
 | x :: xs=>(resSX st x).bind fun (e,l1)=>(Zhp st xs).map fun (es,l2)=>(e :: es,l1.or l2)
theorem Zed {A:Nat->Prop} {m:Map} {st:St} {w:World} (hR:Rel W0 A m st.heap.get w):∀ {xs:List AV} {es:List SX} {lg:Log} {us:List Value},Zhp st xs=some (es,lg)->lg.Fits W0 A->denL m xs=some us →
  ∃ ps,evs W0.s W0.F es=some ps/\ps.length=us.length/\∀ (i:Nat) (p:PV) (u:Value) (x:AV),ps[i]?=some p->us[i]?=some u->xs[i]?=some x->∀ w2:World,(∀ k,Mine W0 w k->Zlx A m st x k->w2.heap[k]?=w.heap[k]?)->Reads w2 p u
 | [],es,lg,us,h,hA,hu=>by
  simp only [Zhp,Option.some.injEq,Prod.mk.injEq] at h
  obtain ⟨rfl,rfl⟩:=h
  simp only [denL,Option.some.injEq] at hu
  subst hu
  exact ⟨[],rfl,rfl,fun i p u x hp=>by simp at hp⟩
 | x :: xs,es,lg,us,h,hA,hu=>by
  simp only [Zhp,Option.bind_eq_some_iff,Option.map_eq_some_iff] at h
  obtain ⟨⟨e,l1⟩,he,⟨es',l2⟩,hes,h⟩:=h
  cases h
  simp only [denL,Option.bind_eq_some_iff,Option.map_eq_some_iff] at hu
  obtain ⟨v,hv,us',hus,rfl⟩:=hu
  obtain ⟨p,h1,h2⟩:=resSX_ok hR he (or_A hA).1 hv
  obtain ⟨ps,h3,h4,h5⟩:=Zed hR hes (or_A hA).2 hus
  refine ⟨p :: ps,by simp [evs,h1,h3],by simp [h4],fun i q u y hq hu hy=>?_⟩
  cases i with
  | zero=>simp at hq hu hy;subst hq;subst hu;subst hy;exact h2
  | succ i=>exact h5 i q u y (by simpa using hq) (by simpa using hu) (by simpa using hy)

mutual
theorem Reads.keep {w w2:World} (h:∀ k,k < w.heap.size->w2.heap[k]?=w.heap[k]?):∀ (p:PV) {u:Value},Reads w p u->Reads w2 p u
 | .v x,u,hr=>by simp only [Reads] at hr ⊢;exact hr
 | .row n cs,u,hr=>by
  simp only [Reads] at hr ⊢
  obtain ⟨a,cap,h1,h2,h3,h4⟩:=hr
  refine ⟨a,cap,h1,h2,h3,?_⟩
  rcases h4 with h4 | ⟨b,off,h4,h5⟩
  ·exact .inl h4
  ·exact .inr ⟨b,off,h4,Zav.keep h b cs off h5⟩
theorem Zav.keep {w w2:World} (h:∀ k,k < w.heap.size->w2.heap[k]?=w.heap[k]?) (b:Nat):∀ (cs:List PV) (off:Nat),Zav w b cs off->Zav w2 b cs off
 | [],off,_=>by simp [Zav]
 | c :: cs,off,hr=>by
  simp only [Zav] at hr ⊢
  obtain ⟨⟨u,hu,hc⟩,hs⟩:=hr
  refine ⟨⟨u,?_,Reads.keep h c hc⟩,Zav.keep h b cs (off+1) hs⟩
  have hb:b < w.heap.size:=World.block_lt_of_cell? w ⟨b,off,none⟩ hu
  rw [<- hu]
  simp only [World.cell?,h b hb]
end

def Zks (E:FnE) (inK:List CK) (path:List Nat):Option (List AV × St × List Fact):=(outD .var inK 0 0 0 path).bind fun (cs,fs,p',os) =>
 cond (Nat.beq inK.length (shLen E.ins) && Nat.blt inK.length 16777215 && inK.all CK.plain) (some (Zcm E.ins cs,⟨Za4 ((Zaf inK 0).map fun j=>(.var j,E.leaks.getD j false)) 0 .nil,(Zaf inK 0).length,p'⟩,fs)) none
def runTo (P:Program) (O:Orc) (n:Nat) (f:FuncId) (E:FnE) (inK:List CK) (path:List Nat) (H:FuncId->Oper->Option Hint:=fun _ _=>none):Option (List Fact × List SX) :=
 (Zks E inK path).bind fun (args,st,fs)=>((Zlf P O n H).call f args st).bind fun (r,st',lg)=>match r with
  | .pan _=>none
  | .ret y=>(Ziy E.outs y).bind fun ys=>(Za0 E.outs ys).bind fun ls=>(Zhp st' ls).bind fun (es,l2)=>some (fs++(lg.V++l2.V),es)

theorem Zhl {E:FnE} {inK:List CK} {path:List Nat} {args:List AV} {st:St} {fs:List Fact} (h:Zks E inK path=some (args,st,fs)) {w:World} {FP:Nat->Prop} {us:List Value} {ps:List PV} {F:Fns} {X:Nat->Prop} (hul:us.length=ps.length) (hpl:ps.length=shLen E.ins) (hFP:∀ k,FP k->k < w.heap.size)
  (hrd:∀ (i:Nat) (p:PV) (u:Value),ps[i]?=some p->us[i]?=some u->Reads w p u/\(E.leaks.getD i false=true->∀ w2:World,(∀ k,FP k->w2.heap[k]?=w.heap[k]?)->Reads w2 p u)) (hf:∀ x ∈ fs,x.holds ⟨w,fun i=>ps[i]?,F,FP,X⟩) :
  ∃ m,Rel ⟨w,fun i=>ps[i]?,F,FP,X⟩ (fun _=>True) m st.heap.get w/\Fresh (fun _=>True) m st.next/\denL m args=some (Za7 E.ins us)/\(∀ r o,st.heap.get r=some o->o.vers=[])/\(∀ r v fp,m.d r=some (v,fp)->∀ k,fp k->FP k \/ ∃ x,x < us.length/\E.leaks.getD x false=false):=by
 simp only [Zks,Option.bind_eq_some_iff] at h
 obtain ⟨⟨cs,fs',p',os⟩,hout,h⟩:=h
 cases hc:(Nat.beq inK.length (shLen E.ins) && Nat.blt inK.length 16777215 && inK.all CK.plain) with
 | false=>simp [hc] at h
 | true =>
  simp only [hc,cond_true,Option.some.injEq,Prod.mk.injEq] at h
  obtain ⟨rfl,rfl,rfl⟩:=h
  simp only [Bool.and_eq_true,Nat.beq_eq,Nat.blt_eq] at hc
  obtain ⟨hc,hplain⟩:=hc
  have hnoOwn:∀ (i:Nat) (el:TypeId) (sz:Nat) (may:Bool),inK[i]? ≠ some (.own el sz may):=fun i el sz may hi=>by
   have:=List.all_eq_true.1 hplain _ (List.mem_of_getElem? hi)
   simp [CK.plain] at this
  obtain ⟨_,hos,_⟩:=outD_os inK 0 _ _ _ hout
  let B:Base:=⟨w,fun i=>ps[i]?,F,FP,X⟩
  let m:Map:=⟨fun _ _=>none,fun r=>((Zaf inK 0)[r]?).bind fun x=>(us[x]?).map fun u=>(u,fun k=>(E.leaks.getD x false=true/\FP k) \/ (E.leaks.getD x false=false/\k < w.heap.size)),B.sv⟩
  have hrl:=Zds inK 0
  have hget:∀ r o,(Za4 ((Zaf inK 0).map fun j=>((.var j:SX),E.leaks.getD j false)) 0 .nil).get r=some o->∃ x p u,(Zaf inK 0)[r]?=some x/\ps[x]?=some p/\us[x]?=some u/\o=Zb9 (.var x,E.leaks.getD x false):=by
   intro r o ho
   rw [Zbc _ _ _ _ (by simp;omega)] at ho
   split at ho
   ·rename_i hr
    rw [List.getElem?_map] at ho
    simp only [Option.map_map,Option.map_eq_some_iff] at ho
    obtain ⟨x,hx,rfl⟩:=ho
    rw [Nat.sub_zero] at hx
    have hxl:=(Zbl inK 0 x (List.mem_of_getElem? hx)).2
    have h1:x < ps.length:=by omega
    have h2:x < us.length:=by omega
    exact ⟨x,ps[x],us[x],hx,List.getElem?_eq_getElem h1,List.getElem?_eq_getElem h2,rfl⟩
   ·simp [T.get] at ho
  have hv:∀ r o,(Za4 ((Zaf inK 0).map fun j=>((.var j:SX),E.leaks.getD j false)) 0 .nil).get r=some o->o.vers=[]:=fun r o ho=>by
   obtain ⟨x,p,u,_,_,_,rfl⟩:=hget r o ho
   rfl
  have hmd:∀ r x u,(Zaf inK 0)[r]?=some x->us[x]?=some u->m.d r=some (u,fun k=>(E.leaks.getD x false=true/\FP k) \/ (E.leaks.getD x false=false/\k < w.heap.size)):=fun r x u hx hu=>by simp [m,hx,hu]
  have hrel:Rel B (fun _=>True) m (Za4 ((Zaf inK 0).map fun j=>((.var j:SX),E.leaks.getD j false)) 0 .nil).get w:=by
   refine ⟨?_,?_,?_,Nat.le_refl _,fun _ _ _=>rfl,?_,?_,?_,fun e=>rfl,⟨rfl,rfl,rfl⟩,?_,fun r o e v n b _ ho _ hvn=>by rw [hv r o ho] at hvn;cases hvn⟩
   ·intro r o _ ho v n hvn;rw [hv r o ho] at hvn;cases hvn
   ·intro r r' o o' v n v' n' b b' _ _ ho _ hvn;rw [hv r o ho] at hvn;cases hvn
   ·intro r o v n rest _ ho hvn;rw [hv r o ho] at hvn;cases hvn
   ·intro r o v n b _ ho hvn;rw [hv r o ho] at hvn;cases hvn
   ·intro r o e _ ho hd
    obtain ⟨x,p,u,h1,h2,h3,rfl⟩:=hget r o ho
    simp only [Zb9,Option.some.injEq] at hd
    subst hd
    obtain ⟨g1,g2⟩:=hrd x p u h2 h3
    refine ⟨u,_,hmd r x u h1 h3,g1.one,?_,fun w2 hw2=>⟨p,by simpa [Base.ev,SX.ev] using h2,?_⟩⟩
    ·rintro k (⟨_,hk⟩ | ⟨_,hk⟩)
     ·exact hFP k hk
     ·exact hk
    ·cases hl:E.leaks.getD x false with
     | true=>exact g2 hl w2 (fun k hk=>hw2 k (.inl ⟨hl,hk⟩))
     | false=>exact Reads.keep (fun k hk=>hw2 k (.inr ⟨hl,hk⟩)) p g1
   ·intro r o R v fp r' o' u n b _ _ _ _ _ ho' hvn;rw [hv r' o' ho'] at hvn;cases hvn
   ·intro r o e v fp _ ho hd hm hro k hk
    obtain ⟨x,p,u,h1,h2,h3,rfl⟩:=hget r o ho
    rw [hmd r x u h1 h3] at hm
    cases hm
    simp only [Zb9] at hro
    rcases hk with ⟨_,hk⟩ | ⟨hl,_⟩
    ·exact .inl hk
    ·rw [hro] at hl;cases hl
  refine ⟨m,hrel,?_,?_,hv,?_⟩
  ·intro r _ hr
   refine ⟨fun v=>rfl,?_⟩
   have:(Zaf inK 0)[r]?=none:=List.getElem?_eq_none hr
   simp [m,this]
  ·have hden:=Zee (W0:=B) (w:=w) (m:=m) (val:=fun i=>us.getD i undef) (fun e=>rfl) inK 0 0 0 path hout hf (fun i _ hi=>by
    have h1:i < ps.length:=by omega
    have h2:i < us.length:=by omega
    refine ⟨ps[i],by simp [Base.ev,SX.ev,B,h1],?_⟩
    have:=(hrd i ps[i] us[i] (List.getElem?_eq_getElem h1) (List.getElem?_eq_getElem h2)).1
    simpa [List.getD,h2] using this) (fun q x hq=>by
    have hxl:=(Zbl inK 0 x (List.mem_of_getElem? hq)).2
    have h2:x < us.length:=by omega
    rw [Nat.zero_add]
    exact ⟨_,by rw [hmd q x us[x] hq (List.getElem?_eq_getElem h2)];simp [List.getD,h2];rfl⟩)
    (fun t x el sz ht=>by obtain ⟨_,may,h,_⟩:=hos t x el sz ht;exact absurd h (hnoOwn _ _ _ _)) (fun i el sz _ hi _=>absurd hi (hnoOwn _ _ _ _))
   have hus':(List.range' 0 inK.length).map (fun i=>us.getD i undef)=us:=by
    apply List.ext_getElem?
    intro i
    by_cases hi:i < us.length
    ·rw [List.getElem?_map,List.getElem?_range' (by omega)]
     simp [List.getD,hi]
    ·rw [List.getElem?_eq_none (by simp;omega),List.getElem?_eq_none (by omega)]
   rw [hus'] at hden
   exact Zdm E.ins cs hden (by omega)
  ·intro r v fp hm k hk
   simp only [m,Option.bind_eq_some_iff,Option.map_eq_some_iff,Prod.mk.injEq] at hm
   obtain ⟨x,hx,u,hu,rfl,rfl⟩:=hm
   rcases hk with ⟨_,h⟩ | ⟨h,_⟩
   ·exact .inl h
   ·exact .inr ⟨x,(List.getElem?_eq_some_iff.1 hu).1,h⟩

theorem Zco (hM:Try.prog.follows .mixedOrders=true) (hN:GoodP Try.prog) {f:FuncId} {E:FnE} {spec:List PV->Option (List PV)} (F:Fns) (inK:List CK)
  (h:∀ ps qs,spec ps=some qs->ps.length=shLen E.ins->∃ O n path H fs es,OrcOk Try.prog O/\runTo Try.prog O n f E inK path H=some (fs,es)/\(∀ w FP,∀ x ∈ fs,x.holds ⟨w,fun i=>ps[i]?,F,FP,fun _=>False⟩)/\evs (fun i=>ps[i]?) F es=some qs) (hpl0:E.kinds.all CK.plain=true:=by rfl):ToldF f E spec:=by
 intro w FP us ps qs hsp hul hpl hFP hrd
 obtain ⟨O,n,path,H,fs,es,hO,hrun,hfacts,hqs⟩:=h ps qs hsp hpl
 simp only [runTo,Option.bind_eq_some_iff] at hrun
 obtain ⟨⟨args,st,fs0⟩,hst,⟨r,st',lg⟩,hcall,hrun⟩:=hrun
 cases r with
 | pan v=>simp at hrun
 | ret y =>
  simp only [Option.bind_eq_some_iff] at hrun
  obtain ⟨ys,hys,ls,hls,⟨es',l2⟩,hes,hrun⟩:=hrun
  simp only [Option.some.injEq,Prod.mk.injEq] at hrun
  obtain ⟨rfl,rfl⟩:=hrun
  have hf:=hfacts w FP
  obtain ⟨m,hR,hF,hargs,hv0,_⟩:=Zhl hst hul hpl hFP hrd (fun x hx=>hf x (by simp [hx]))
  refine ((theEng_ok hN hM hO n).call f args st _ _ _ hcall ⟨w,fun i=>ps[i]?,F,FP,fun _=>False⟩ (fun _=>True) m w _ ⟨fun _ _=>trivial,fun x hx=>hf x (by simp [hx])⟩ hR hF hargs).mono ?_
  rintro e w' ⟨m',hok,v,hv,rfl⟩
  obtain ⟨us',h1,h2,rfl⟩:=Zix hys hv hls
  obtain ⟨qs',h3,h4,h5⟩:=Zed hok.rel hes ⟨fun _ _=>trivial,fun x hx=>hf x (by simp [hx])⟩ h1
  rw [hqs] at h3
  cases h3
  have hll:=Zab h1
  refine ⟨us',fun _=>none,h4.symm,by omega,Zbm hpl0,fun i q u hq hu w2 hw2=>h5 i q u _ hq hu (List.getElem?_eq_getElem (show i < ls.length by have:=(List.getElem?_eq_some_iff.1 hu).1;omega)) w2 (fun k hk _=>hw2 k ?_ (fun _ _ h=>by cases h)),rfl,?_⟩
  ·rcases hk.2 with h | h
   ·exact .inl h
   ·exact .inr ⟨h,hk.1⟩
  ·exact ⟨hok.rel.same.1,hok.rel.same.2.1,hok.rel.same.2.2,hok.rel.size0,fun k hk=>hok.rel.amb k hk (fun h=>h)⟩
end Go.Proofs.Ytcaclmdkhffegaa.eng
end

section
/- The engine: states of a call by their shape; pieces of code from shape to shape; loops; a contract out of pieces. -/
namespace Go.Proofs.Ytcaclmdkhffegaa.eng
open Go Go.RowKit
variable {W0 : Base}
set_option linter.unusedVariables false
set_option linter.unusedSimpArgs false

inductive Pt where
 | leaf
 | ptr (j idx sz sub:Nat)
 | agg (n:Nat)
 | own (j k sz:Nat)
 | nil
 | map (j:Nat)
 deriving Inhabited
structure BoxT where
 elem:TypeId
 esz:Nat
 opn:Bool
 cells:List Pt
 own:Option Nat
 lent:Bool
 deriving Inhabited
def BoxT.mp (b:BoxT):Bool:=b.own.isSome && Nat.beq b.esz 0
structure Shape where
 slots:List (Nat × Pt)
 boxes:List BoxT
 rows:List (Option Bool)
 n:Nat
 f:FuncId
 deriving Inhabited

def Zej:List (Option Bool)->Nat->Nat->List AV
 | [],_,_=>[]
 | some _ :: ks,i,q=>.dat q :: Zej ks (i+1) (q+1)
 | none :: ks,i,q=>.sym (.var i) :: Zej ks (i+1) q
def Zau:List (Option Bool)->Nat->List (SX × Bool)
 | [],_=>[]
 | some b :: ks,i=>(.var i,b) :: Zau ks (i+1)
 | none :: ks,i=>Zau ks (i+1)
def fillP:List Pt->List AV->Option (List AV × List AV)
 | [],ls=>some ([],ls)
 | .leaf :: ps,l :: ls=>(fillP ps ls).map fun (xs,r)=>(l :: xs,r)
 | .leaf :: _,[]=>none
 | .ptr j idx sz sub :: ps,ls=>(fillP ps ls).map fun (xs,r)=>(.ptr j 0 idx sz sub :: xs,r)
 | .own j k sz :: ps,ls=>(fillP ps ls).map fun (xs,r)=>(.sliceS j 0 c0 (.len (.var k)) sz :: xs,r)
 | .nil :: ps,ls=>(fillP ps ls).map fun (xs,r)=>(.val (.slice none 0 0) :: xs,r)
 | .map j :: ps,ls=>(fillP ps ls).map fun (xs,r)=>(.mapV j :: xs,r)
 | .agg n :: ps,ls=>cond (Nat.ble n ls.length) ((fillP ps (ls.drop n)).map fun (xs,r)=>(.agg (ls.take n) :: xs,r)) none
def fillB:List BoxT->List AV->Option (List (List AV) × List AV)
 | [],ls=>some ([],ls)
 | b :: bs,ls=>(fillP b.cells ls).bind fun (xs,r)=>(fillB bs r).map fun (yss,r')=>(xs :: yss,r')
def tmOf:List Nat->List AV->T AV->T AV
 | t :: ts,y :: ys,tm=>tmOf ts ys (T.set 24 tm t (some y))
 | _,_,tm=>tm
def Zbh (b:BoxT) (cells:List AV):ARoot:={ cells,elem:=b.elem,esz:=b.esz,ro:=false,opn:=b.opn,vers:=[(0,cells.length)],sym:=b.own.map SX.var,lent:=b.lent,mp:=b.mp }
def Zeo:List BoxT->List (List AV)->Nat->T ARoot->T ARoot
 | b :: bs,c :: cs,j,h=>Zeo bs cs (j+1) (T.set 24 h j (some (Zbh b c)))
 | _,_,_,h=>h
def Zfw:List BoxT->Nat->Bool
 | [],_=>true
 | b :: bs,k=>match b.own with
  | none=>Zfw bs k
  | some k'=>Nat.beq k k' && b.cells.isEmpty && Zfw bs (k+1)
def ownsN:List BoxT->Nat
 | []=>0
 | b :: bs=>match b.own with
  | none=>ownsN bs
  | some _=>ownsN bs+1
def small (l:List Nat):Bool:=l.all fun t=>Nat.blt (t+1) 16777216
def canon (sh:Shape) (path:List Nat):Option (AAct × St) :=
 (fillP (sh.slots.map (·.2)) (Zej sh.rows 0 sh.boxes.length)).bind fun (xs,r)=>(fillB sh.boxes r).bind fun (css,r') =>
  cond (r'.isEmpty && small (sh.slots.map (·.1)) && Nat.blt (sh.boxes.length+sh.rows.length) 16777215 && Zfw sh.boxes sh.rows.length)
   (some ({ tm:=tmOf (sh.slots.map (·.1)) xs .nil,n:=sh.n,defers:=[],f:=sh.f },⟨Za4 (Zau sh.rows 0) sh.boxes.length (Zeo sh.boxes css 0 .nil),sh.boxes.length+(Zau sh.rows 0).length,path⟩)) none

structure At (B:Base) (m:Map) (x:AAct) (st:St) (a:Act) (w:World):Prop where
 rel:Rel B (fun _=>True) m st.heap.get w
 fresh:Fresh (fun _=>True) m st.next
 tm:TRel m x a
def Base.with (B:Base) (ps:List PV):Base:={ B with s:=fun i=>ps[i]? }
def Za9 (B:Base) (sh:Shape) (ps:List PV) (a:Act) (w:World):Prop:=∃ x st m,canon sh []=some (x,st)/\ps.length=sh.rows.length+ownsN sh.boxes/\At (B.with ps) m x st a w

def isNil:AV->Bool | .val (.slice none n c)=>Nat.beq n 0 && Nat.beq c 0 | _=>false
theorem isNil_ok {x:AV} (h:isNil x=true):x=.val (.slice none 0 0):=by
 unfold isNil at h
 split at h
 ·simp only [Bool.and_eq_true,Nat.beq_eq] at h
  obtain ⟨rfl,rfl⟩:=h
  rfl
 ·cases h
def Zan (rho:List (Nat × Nat)):List Pt->List AV->Option (List AV)
 | [],[]=>some []
 | .leaf :: ps,x :: xs=>(Zan rho ps xs).map (x :: ·)
 | .ptr j idx sz sub :: ps,.ptr r v idx' sz' sub' :: xs=>match rho[j]? with
  | some (r',v')=>cond (Nat.beq r r' && Nat.beq v v' && Nat.beq idx idx' && Nat.beq sz sz' && Nat.beq sub sub') (Zan rho ps xs) none
  | none=>none
 | .agg n :: ps,x :: xs=>x.aggs.bind fun cs=>cond (Nat.beq cs.length n) ((Zan rho ps xs).map (cs++·)) none
 | .own j k sz :: ps,.sliceS r v lo len sz' :: xs=>match rho[j]? with
  | some (r',v')=>cond (Nat.beq r r' && Nat.beq v v' && Nat.beq sz sz' && isC0 lo) (Zan rho ps xs) none
  | none=>none
 | .nil :: ps,x :: xs=>cond (isNil x) (Zan rho ps xs) none
 | .map j :: ps,.mapV r :: xs=>match rho[j]? with
  | some (r',v')=>cond (Nat.beq r r' && Nat.beq v' 0) (Zan rho ps xs) none
  | none=>none
 | _,_=>none
def Zbj:List Pt->List AV->List (Nat × Nat × SX)
 | .own j k sz :: ps,.sliceS r v lo len sz' :: xs=>(j,k,len) :: Zbj ps xs
 | _ :: ps,_ :: xs=>Zbj ps xs
 | _,_=>[]
def Zb0:List BoxT->List (List AV)->List (Nat × Nat × SX)
 | b :: bs,c :: cs=>Zbj b.cells c++Zb0 bs cs
 | _,_=>[]
def lookX (st:St) (r v:Nat):Option SX:=(st.heap.get r).bind fun o=>o.sym.bind fun e=>match o.vers with
 | [(v',0)]=>cond (Nat.beq v v' && !o.ro && !o.lent) (some e) none
 | _=>none
theorem Zi5 {st:St} {r v:Nat} {e:SX} (h:lookX st r v=some e):∃ o,st.heap.get r=some o/\o.sym=some e/\o.vers=[(v,0)]/\o.ro=false/\o.lent=false:=by
 simp only [lookX,Option.bind_eq_some_iff] at h
 obtain ⟨o,ho,e',he,h⟩:=h
 split at h
 ·rename_i v' hv
  simp only [cond_eq_ite,Bool.and_eq_true,Nat.beq_eq,Bool.not_eq_true'] at h
  split at h
  ·rename_i hc
   obtain ⟨⟨rfl,hro⟩,hlt⟩:=hc
   cases h
   exact ⟨o,ho,he,hv,hro,hlt⟩
  ·cases h
 ·cases h
theorem RowAt.ev {W0:Base} {w:World} {o:ARoot} {b:Nat × Nat} {e:SX} (h:RowAt W0 w o b e):∃ n cs,W0.ev e=some (.row n cs):=by
 cases hm:o.mp with
 | true =>
  cases ho:o.opn with
  | true=>obtain ⟨cs,es,ck,h1,_⟩:=h.mi hm ho;exact ⟨_,cs,h1⟩
  | false=>obtain ⟨cs,es,ck,h1,_⟩:=h.m hm ho;exact ⟨_,cs,h1⟩
 | false=>obtain ⟨n,cs,c,fz,h1,_⟩:=h.c hm;exact ⟨n,cs,h1⟩
def ownSX (st:St):List (Nat × Nat)->List BoxT->Option (List SX)
 | r :: rs,b :: bs=>match b.own with
  | none=>ownSX st rs bs
  | some _=>(lookX st r.1 r.2).bind fun e=>(ownSX st rs bs).map (e :: ·)
 | [],[]=>some []
 | _,_=>none
def Zk2 (st:St) (rho:List (Nat × Nat)) (j:Nat):SX:=match rho[j]? with | some r=>(match lookX st r.1 r.2 with | some e=>e | none=>c0) | none=>c0
def Zk7 (bs:List BoxT) (l:List (Nat × Nat × SX)):Bool:=l.all fun t=>match bs[t.1]? with | some b=>(match b.own with | some k=>Nat.beq k t.2.1 | none=>false) | none=>false
def usesF (st:St) (rho:List (Nat × Nat)) (l:List (Nat × Nat × SX)):List Fact:=l.map fun t=>.same t.2.2 (.len (Zk2 st rho t.1))
def Zho (x:AAct):List Nat->Option (List AV)
 | []=>some []
 | t :: ts=>(x.tm.get t).bind fun y=>(Zho x ts).map (y :: ·)
def boxOk (st:St) (rho:Nat × Nat) (b:BoxT):Option (List AV):=(st.heap.get rho.1).bind fun o=>match o.vers with
 | (v,n) :: _=>cond (Nat.beq v rho.2 && Nat.beq n o.cells.length && Nat.beq o.elem b.elem && Nat.beq o.esz b.esz && (o.opn == b.opn) && Nat.beq o.cells.length b.cells.length && (o.sym.isSome == b.own.isSome) && (o.lent == b.lent) && (o.mp == b.mp)) (some o.cells) none
 | []=>none
def Zfm (st:St):List (Nat × Nat)->List BoxT->Option (List (List AV))
 | [],[]=>some []
 | r :: rs,b :: bs=>(boxOk st r b).bind fun c=>(Zfm st rs bs).map (c :: ·)
 | _,_=>none
def Zcn (rho:List (Nat × Nat)):List BoxT->List (List AV)->Option (List AV)
 | [],[]=>some []
 | b :: bs,c :: cs=>(Zan rho b.cells c).bind fun l=>(Zcn rho bs cs).map (l++·)
 | _,_=>none
def Zjo:List Nat->Bool
 | []=>true
 | r :: rs=>rs.all (fun q=>!(Nat.beq r q)) && Zjo rs
def Zd3 (st:St):List (Option Bool)->List AV->Option (List SX × List Fact)
 | [],[]=>some ([],[])
 | k :: ks,x :: xs=>(Zg6 st x).bind fun (e,ok,_)=>(Zd3 st ks xs).bind fun (es,fs)=>match k with
  | none=>some (e :: es,.ok e :: fs)
  | some b=>cond (ok || !b) (some (e :: es,fs)) none
 | _,_=>none
def Zku (sh:Shape) (rho:List (Nat × Nat)) (x:AAct) (st:St):Option (List SX × List Fact) :=
 cond (x.defers.isEmpty && Nat.beq x.n sh.n && Zjo (rho.map (·.1)) && Nat.beq rho.length sh.boxes.length) ((Zho x (sh.slots.map (·.1))).bind fun ys=>(Zan rho (sh.slots.map (·.2)) ys).bind fun l1=>(Zfm st rho sh.boxes).bind fun css=>(Zcn rho sh.boxes css).bind fun l2=>(Zd3 st sh.rows (l1++l2)).bind fun (es,fs)=>(ownSX st rho sh.boxes).bind fun os=>cond (Zk7 sh.boxes (Zbj (sh.slots.map (·.2)) ys++Zb0 sh.boxes css)) (some (es++os,fs++usesF st rho (Zbj (sh.slots.map (·.2)) ys++Zb0 sh.boxes css))) none) none

structure Leafs (B:Base) (m:Map) (st:St) (w:World) (k:Option Bool) (p:PV) (u:Value) (fp:Nat->Prop):Prop where
 lt:∀ q,fp q->q < w.heap.size
 fpb:k=some true->∀ q,fp q->B.fp q \/ B.heap.size<=q
 hangs:∀ q,fp q->Hangs (fun _=>True) m st q
 reads:∀ w2:World,(∀ q,fp q->w2.heap[q]?=w.heap[q]?)->Reads w2 p u
 plain:k=none->∃ v,p=.v v
theorem cellSX_fp {B:Base} {m:Map} {st:St} {w:World} (hR:Rel B (fun _=>True) m st.heap.get w) {x:AV} {e:SX} {ok:Bool} {lg:Log} {u:Value} (h:Zg6 st x=some (e,ok,lg)) (hx:x.den m=some u) :
  ∃ (p:PV) (fp:Nat->Prop),e.ev B.s B.F=some p/\(∀ q,fp q->q < w.heap.size)/\(ok=true->∀ q,fp q->B.fp q \/ B.heap.size<=q)/\(∀ q,fp q->Hangs (fun _=>True) m st q)/\∀ w2:World,(∀ q,fp q->w2.heap[q]?=w.heap[q]?)->Reads w2 p u:=by
 unfold Zg6 at h
 split at h
 ·simp only [Option.some.injEq,Prod.mk.injEq] at h
  obtain ⟨rfl,rfl,rfl⟩:=h
  simp only [AV.den,Option.some.injEq] at hx
  subst hx
  exact ⟨.row 0 [],fun _=>False,by simp [SX.ev,evs],fun _ h=>h.elim,fun _ _ h=>h.elim,fun _ h=>h.elim,fun w2 _=>by simp only [Reads];exact ⟨none,0,rfl,Nat.le_refl _,Nat.zero_le _,.inl trivial⟩⟩
 ·rename_i v _
  simp only [AV.den,Option.some.injEq] at hx
  subst hx
  cases ho:v.oneCell' with
  | false=>simp [ho] at h
  | true =>
   simp only [ho,cond_true,Option.some.injEq,Prod.mk.injEq] at h
   obtain ⟨rfl,rfl,rfl⟩:=h
   exact ⟨.v v,fun _=>False,by simp [SX.ev],fun _ h=>h.elim,fun _ _ h=>h.elim,fun _ h=>h.elim,fun w2 _=>by simp [Reads,ho]⟩
 ·simp only [Option.some.injEq,Prod.mk.injEq] at h
  obtain ⟨rfl,rfl,rfl⟩:=h
  obtain ⟨h1,h2⟩:=Zg1 hR.sv hx
  exact ⟨.v u,fun _=>False,h1,fun _ h=>h.elim,fun _ _ h=>h.elim,fun _ h=>h.elim,fun w2 _=>by simp [Reads,h2]⟩
 ·rename_i r
  simp only [Option.bind_eq_some_iff,Option.map_eq_some_iff,Prod.mk.injEq] at h
  obtain ⟨o',ho',e',hr,rfl,rfl,rfl⟩:=h
  obtain ⟨o,v,fp,p,ho,hd,hm,hone,hlt,hfb,hp,hrd⟩:=thing hR (Option.bind_eq_some_iff.2 ⟨o',ho',hr⟩) trivial
  rw [ho'] at ho
  cases ho
  simp only [AV.den,hm,Option.bind_some,hone,cond_true,Option.some.injEq] at hx
  subst hx
  exact ⟨p,fp,hp,hlt,hfb,fun q hq=>⟨r,o',e',v,fp,trivial,ho',hd,hm,hq⟩,hrd⟩
 ·cases h
theorem leavesSX_ok {B:Base} {m:Map} {st:St} {w:World} (hR:Rel B (fun _=>True) m st.heap.get w):∀ (ks:List (Option Bool)) (xs:List AV) {es:List SX} {fs:List Fact} {us:List Value},Zd3 st ks xs=some (es,fs)->denL m xs=some us->(∀ f ∈ fs,f.holds B) →
  ∃ ps,evs B.s B.F es=some ps/\ps.length=ks.length/\us.length=ks.length/\∃ fps:Nat->Nat->Prop,∀ (i:Nat) (k:Option Bool) (p:PV) (u:Value),ks[i]?=some k->ps[i]?=some p->us[i]?=some u->Leafs B m st w k p u (fps i)
 | [],[],es,fs,us,h,hu,hf=>by
  simp only [Zd3,Option.some.injEq,Prod.mk.injEq] at h
  obtain ⟨rfl,rfl⟩:=h
  simp only [denL,Option.some.injEq] at hu
  subst hu
  exact ⟨[],rfl,rfl,rfl,fun _ _=>False,fun i k p u hk=>by simp at hk⟩
 | [],_ :: _,es,fs,us,h,hu,hf=>by simp [Zd3] at h
 | _ :: _,[],es,fs,us,h,hu,hf=>by simp [Zd3] at h
 | k :: ks,x :: xs,es,fs,us,h,hu,hf=>by
  simp only [Zd3,Option.bind_eq_some_iff] at h
  obtain ⟨⟨e,ok,l⟩,he,⟨es',fs'⟩,hes,h⟩:=h
  simp only [denL,Option.bind_eq_some_iff,Option.map_eq_some_iff] at hu
  obtain ⟨v,hv,us',hus,rfl⟩:=hu
  obtain ⟨p,fp,h1,h2,h3,h4,h5⟩:=cellSX_fp hR he hv
  have fin:es=e :: es'->(∀ f ∈ fs',f.holds B)->Leafs B m st w k p v fp->∃ ps,evs B.s B.F es=some ps/\ps.length=(k :: ks).length/\(v :: us').length=(k :: ks).length/\∃ fps:Nat->Nat->Prop,∀ (i:Nat) (k1:Option Bool) (p:PV) (u:Value),(k :: ks)[i]?=some k1->ps[i]?=some p->(v :: us')[i]?=some u->Leafs B m st w k1 p u (fps i):=by
   rintro rfl hf' hl
   obtain ⟨ps,g1,g2,g3,fps,g4⟩:=leavesSX_ok hR ks xs hes hus hf'
   refine ⟨p :: ps,by simp [evs,h1,g1],by simp [g2],by simp [g3],fun i=>match i with | 0=>fp | i+1=>fps i,fun i k1 q u hk hq hu=>?_⟩
   cases i with
   | zero=>simp at hk hq hu;subst hk;subst hq;subst hu;exact hl
   | succ i=>exact g4 i k1 q u (by simpa using hk) (by simpa using hq) (by simpa using hu)
  cases k with
  | none =>
   simp only [Option.some.injEq,Prod.mk.injEq] at h
   obtain ⟨rfl,rfl⟩:=h
   refine fin rfl (fun f hf'=>hf f (by simp [hf'])) ⟨h2,fun h=>(by cases h),h4,h5,fun _=>?_⟩
   obtain ⟨y,hy,_⟩:=hf (.ok e) (by simp)
   have:e.ev B.s B.F=some (.v y):=hy
   rw [h1] at this
   exact ⟨y,Option.some.inj this⟩
  | some b =>
   simp only [cond_eq_ite] at h
   split at h
   ·rename_i hc
    simp only [Option.some.injEq,Prod.mk.injEq] at h
    obtain ⟨rfl,rfl⟩:=h
    refine fin rfl hf ⟨h2,fun h=>?_,h4,h5,fun h=>by cases h⟩
    cases h
    exact h3 (by simpa using hc)
   ·cases h

theorem Zch {m:Map} {rho:List (Nat × Nat)}:∀ (ps:List Pt) (xs:List AV) {ls:List AV} {vs:List Value},Zan rho ps xs=some ls->denL m xs=some vs->∃ us,denL m ls=some us
 | [],[],ls,vs,h,hv=>by
  simp only [Zan,Option.some.injEq] at h
  subst h
  exact ⟨[],rfl⟩
 | [],_ :: _,ls,vs,h,hv=>by simp [Zan] at h
 | .leaf :: ps,[],ls,vs,h,hv=>by simp [Zan] at h
 | .agg n :: ps,[],ls,vs,h,hv=>by simp [Zan] at h
 | .ptr .. :: ps,[],ls,vs,h,hv=>by simp [Zan] at h
 | .own .. :: ps,[],ls,vs,h,hv=>by simp [Zan] at h
 | .nil :: ps,[],ls,vs,h,hv=>by simp [Zan] at h
 | .map .. :: ps,[],ls,vs,h,hv=>by simp [Zan] at h
 | .map j :: ps,x :: xs,ls,vs,h,hv=>by
  cases x with
  | mapV r =>
   simp only [Zan] at h
   split at h
   ·simp only [cond_eq_ite] at h
    split at h
    ·simp only [denL,Option.bind_eq_some_iff,Option.map_eq_some_iff] at hv
     obtain ⟨v1,hv1,vs',hvs,rfl⟩:=hv
     exact Zch ps xs h hvs
    ·cases h
   ·cases h
  | _=>simp [Zan] at h
 | .nil :: ps,x :: xs,ls,vs,h,hv=>by
  cases hn:isNil x with
  | false=>simp [Zan,hn] at h
  | true =>
   simp only [Zan,hn,cond_true] at h
   simp only [denL,Option.bind_eq_some_iff,Option.map_eq_some_iff] at hv
   obtain ⟨v1,hv1,vs',hvs,rfl⟩:=hv
   exact Zch ps xs h hvs
 | .leaf :: ps,x :: xs,ls,vs,h,hv=>by
  simp only [Zan,Option.map_eq_some_iff] at h
  obtain ⟨l,hl,rfl⟩:=h
  simp only [denL,Option.bind_eq_some_iff,Option.map_eq_some_iff] at hv
  obtain ⟨v,hv,vs',hvs,rfl⟩:=hv
  obtain ⟨us,h1⟩:=Zch ps xs hl hvs
  exact ⟨v :: us,by simp [denL,hv,h1]⟩
 | .agg n :: ps,x :: xs,ls,vs,h,hv=>by
  simp only [Zan,Option.bind_eq_some_iff] at h
  obtain ⟨cs,hcs,h⟩:=h
  cases hn:Nat.beq cs.length n with
  | false=>simp [hn] at h
  | true =>
   simp only [hn,cond_true,Option.map_eq_some_iff] at h
   obtain ⟨l,hl,rfl⟩:=h
   simp only [denL,Option.bind_eq_some_iff,Option.map_eq_some_iff] at hv
   obtain ⟨v,hv,vs',hvs,rfl⟩:=hv
   obtain ⟨lv,rfl,hlv⟩:=Zh3 hcs hv
   obtain ⟨us,h1⟩:=Zch ps xs hl hvs
   exact ⟨lv++us,Zah hlv h1⟩
 | .ptr j idx sz sub :: ps,x :: xs,ls,vs,h,hv=>by
  cases x with
  | ptr r v idx' sz' sub' =>
   simp only [Zan] at h
   split at h
   ·simp only [cond_eq_ite] at h
    split at h
    ·simp only [denL,Option.bind_eq_some_iff,Option.map_eq_some_iff] at hv
     obtain ⟨v1,hv1,vs',hvs,rfl⟩:=hv
     exact Zch ps xs h hvs
    ·cases h
   ·cases h
  | _=>simp [Zan] at h
 | .own j k sz :: ps,x :: xs,ls,vs,h,hv=>by
  cases x with
  | sliceS r v lo len sz' =>
   simp only [Zan] at h
   split at h
   ·simp only [cond_eq_ite] at h
    split at h
    ·simp only [denL,Option.bind_eq_some_iff,Option.map_eq_some_iff] at hv
     obtain ⟨v1,hv1,vs',hvs,rfl⟩:=hv
     exact Zch ps xs h hvs
    ·cases h
   ·cases h
  | _=>simp [Zan] at h
def OwnGo (m m2:Map) (rho:List (Nat × Nat)) (W:List (Nat × Nat × SX)):Prop:=∀ j k sz r v lo len u,rho[j]?=some (r,v)->isC0 lo=true->(j,k,len) ∈ W->(AV.sliceS r v lo len sz).den m=some u->(AV.sliceS j 0 c0 (.len (.var k)) sz).den m2=some u
theorem Zci {m m2:Map} {rho:List (Nat × Nat)} (hm:∀ j r v,rho[j]?=some (r,v)->m2 j 0=m r v) {W:List (Nat × Nat × SX)} (ho:OwnGo m m2 rho W):∀ (ps:List Pt) (xs:List AV) {ls:List AV} {vs:List Value},Zan rho ps xs=some ls->denL m xs=some vs->(∀ t ∈ Zbj ps xs,t ∈ W) →
  ∃ us,denL m ls=some us/\∀ (ls' rest:List AV),denL m2 ls'=some us->∃ xs',fillP ps (ls'++rest)=some (xs',rest)/\denL m2 xs'=some vs
 | [],[],ls,vs,h,hv,hW=>by
  simp only [Zan,Option.some.injEq] at h
  subst h
  refine ⟨[],rfl,fun ls' rest hl=>?_⟩
  have:=Zab hl
  have:ls'=[]:=List.eq_nil_of_length_eq_zero (by simpa using this.symm)
  subst this
  exact ⟨[],rfl,hv⟩
 | [],_ :: _,ls,vs,h,hv,hW=>by simp [Zan] at h
 | .leaf :: ps,[],ls,vs,h,hv,hW=>by simp [Zan] at h
 | .agg n :: ps,[],ls,vs,h,hv,hW=>by simp [Zan] at h
 | .ptr .. :: ps,[],ls,vs,h,hv,hW=>by simp [Zan] at h
 | .own .. :: ps,[],ls,vs,h,hv,hW=>by simp [Zan] at h
 | .nil :: ps,[],ls,vs,h,hv,hW=>by simp [Zan] at h
 | .nil :: ps,x :: xs,ls,vs,h,hv,hW=>by
  cases hn:isNil x with
  | false=>simp [Zan,hn] at h
  | true =>
   simp only [Zan,hn,cond_true] at h
   have hx:=isNil_ok hn
   subst hx
   simp only [denL,Option.bind_eq_some_iff,Option.map_eq_some_iff] at hv
   obtain ⟨v1,hv1,vs',hvs,rfl⟩:=hv
   obtain ⟨us,h1,h2⟩:=Zci hm ho ps xs h hvs (fun t ht=>hW t (by simpa [Zbj] using ht))
   refine ⟨us,h1,fun ls' rest hl'=>?_⟩
   obtain ⟨xs',g1,g2⟩:=h2 ls' rest hl'
   refine ⟨.val (.slice none 0 0) :: xs',by simp [fillP,g1],?_⟩
   simp only [AV.den,Option.some.injEq] at hv1
   subst hv1
   simp [denL,AV.den,g2]
 | .leaf :: ps,x :: xs,ls,vs,h,hv,hW=>by
  simp only [Zan,Option.map_eq_some_iff] at h
  obtain ⟨l,hl,rfl⟩:=h
  simp only [denL,Option.bind_eq_some_iff,Option.map_eq_some_iff] at hv
  obtain ⟨v,hv,vs',hvs,rfl⟩:=hv
  obtain ⟨us,h1,h2⟩:=Zci hm ho ps xs hl hvs (fun t ht=>hW t (by simpa [Zbj] using ht))
  refine ⟨v :: us,by simp [denL,hv,h1],fun ls' rest hl'=>?_⟩
  match ls',hl' with
  | [],hl'=>simp [denL] at hl'
  | y :: ys,hl' =>
   simp only [denL,Option.bind_eq_some_iff,Option.map_eq_some_iff] at hl'
   obtain ⟨v',hv',us',hus',he⟩:=hl'
   cases he
   obtain ⟨xs',g1,g2⟩:=h2 ys rest hus'
   exact ⟨y :: xs',by simp [fillP,g1],by simp [denL,hv',g2]⟩
 | .agg n :: ps,x :: xs,ls,vs,h,hv,hW=>by
  simp only [Zan,Option.bind_eq_some_iff] at h
  obtain ⟨cs,hcs,h⟩:=h
  cases hn:Nat.beq cs.length n with
  | false=>simp [hn] at h
  | true =>
   simp only [hn,cond_true,Option.map_eq_some_iff] at h
   obtain ⟨l,hl,rfl⟩:=h
   have hn':=Nat.eq_of_beq_eq_true hn
   simp only [denL,Option.bind_eq_some_iff,Option.map_eq_some_iff] at hv
   obtain ⟨v,hv,vs',hvs,rfl⟩:=hv
   obtain ⟨lv,rfl,hlv⟩:=Zh3 hcs hv
   obtain ⟨us,h1,h2⟩:=Zci hm ho ps xs hl hvs (fun t ht=>hW t (by simpa [Zbj] using ht))
   have hll:=Zab hlv
   refine ⟨lv++us,Zah hlv h1,fun ls' rest hl'=>?_⟩
   have hlen:=Zab hl'
   simp only [List.length_append] at hlen
   have t1:=Zck n hl'
   have t2:=Zcl n hl'
   have e1:(lv++us).take n=lv:=by rw [List.take_append_of_le_length (by omega),List.take_of_length_le (by omega)]
   have e2:(lv++us).drop n=us:=by rw [List.drop_append_of_le_length (by omega),List.drop_of_length_le (by omega),List.nil_append]
   rw [e1] at t1
   rw [e2] at t2
   obtain ⟨xs',g1,g2⟩:=h2 _ rest t2
   refine ⟨.agg (ls'.take n) :: xs',?_,by simp [denL,AV.den,t1,g2]⟩
   have hle:Nat.ble n (ls'++rest).length=true:=by simp;omega
   simp only [fillP,hle,cond_true]
   rw [List.drop_append_of_le_length (by omega),g1,List.take_append_of_le_length (by omega)]
   rfl
 | .ptr j idx sz sub :: ps,x :: xs,ls,vs,h,hv,hW=>by
  cases x with
  | ptr r v idx' sz' sub' =>
   simp only [Zan] at h
   split at h
   ·rename_i r' v' hj
    simp only [cond_eq_ite,Bool.and_eq_true,Nat.beq_eq] at h
    split at h
    ·rename_i hc
     obtain ⟨⟨⟨⟨rfl,rfl⟩,rfl⟩,rfl⟩,rfl⟩:=hc
     simp only [denL,Option.bind_eq_some_iff,Option.map_eq_some_iff] at hv
     obtain ⟨v1,hv1,vs',hvs,rfl⟩:=hv
     obtain ⟨us,h1,h2⟩:=Zci hm ho ps xs h hvs (fun t ht=>hW t (by simpa [Zbj] using ht))
     refine ⟨us,h1,fun ls' rest hl'=>?_⟩
     obtain ⟨xs',g1,g2⟩:=h2 ls' rest hl'
     refine ⟨.ptr j 0 idx sz sub :: xs',by simp [fillP,g1],?_⟩
     have:(AV.ptr j 0 idx sz sub).den m2=some v1:=by
      rw [<- hv1];simp only [AV.den,hm j r v hj]
     simp [denL,this,g2]
    ·cases h
   ·cases h
  | _=>simp [Zan] at h
 | .map j :: ps,x :: xs,ls,vs,h,hv,hW=>by
  cases x with
  | mapV r =>
   simp only [Zan] at h
   split at h
   ·rename_i r' v' hj
    simp only [cond_eq_ite,Bool.and_eq_true,Nat.beq_eq] at h
    split at h
    ·rename_i hc
     obtain ⟨rfl,rfl⟩:=hc
     simp only [denL,Option.bind_eq_some_iff,Option.map_eq_some_iff] at hv
     obtain ⟨v1,hv1,vs',hvs,rfl⟩:=hv
     obtain ⟨us,h1,h2⟩:=Zci hm ho ps xs h hvs (fun t ht=>hW t (by simpa [Zbj] using ht))
     refine ⟨us,h1,fun ls' rest hl'=>?_⟩
     obtain ⟨xs',g1,g2⟩:=h2 ls' rest hl'
     refine ⟨.mapV j :: xs',by simp [fillP,g1],?_⟩
     have:(AV.mapV j).den m2=some v1:=by
      rw [<- hv1];simp only [AV.den,hm j r 0 hj]
     simp [denL,this,g2]
    ·cases h
   ·cases h
  | _=>simp [Zan] at h
 | .own j k sz :: ps,x :: xs,ls,vs,h,hv,hW=>by
  cases x with
  | sliceS r v lo len sz' =>
   simp only [Zan] at h
   split at h
   ·rename_i r' v' hj
    simp only [cond_eq_ite,Bool.and_eq_true,Nat.beq_eq] at h
    split at h
    ·rename_i hc
     obtain ⟨⟨⟨rfl,rfl⟩,rfl⟩,hc0⟩:=hc
     simp only [denL,Option.bind_eq_some_iff,Option.map_eq_some_iff] at hv
     obtain ⟨v1,hv1,vs',hvs,rfl⟩:=hv
     obtain ⟨us,h1,h2⟩:=Zci hm ho ps xs h hvs (fun t ht=>hW t (by simp [Zbj,ht]))
     refine ⟨us,h1,fun ls' rest hl'=>?_⟩
     obtain ⟨xs',g1,g2⟩:=h2 ls' rest hl'
     refine ⟨.sliceS j 0 c0 (.len (.var k)) sz :: xs',by simp [fillP,g1],?_⟩
     have:=ho j k sz r v lo len v1 hj hc0 (hW _ (by simp [Zbj])) hv1
     simp [denL,this,g2]
    ·cases h
   ·cases h
  | _=>simp [Zan] at h
theorem slotsOf_ok {m:Map} {x:AAct} {a:Act} (h:TRel m x a):∀ {ts:List Nat} {ys:List AV},Zho x ts=some ys->∃ vs,denL m ys=some vs/\vs.length=ts.length/\∀ (i t:Nat) (v:Value),ts[i]?=some t->vs[i]?=some v->a.tmps[t]?=some v
 | [],ys,hy=>by simp [Zho] at hy;subst hy;exact ⟨[],rfl,rfl,fun i t v h=>by simp at h⟩
 | t :: ts,ys,hy=>by
  simp only [Zho,Option.bind_eq_some_iff,Option.map_eq_some_iff] at hy
  obtain ⟨y,hy,zs,hz,rfl⟩:=hy
  obtain ⟨v,hv,hg⟩:=h.get t y hy
  obtain ⟨vs,h1,h2,h3⟩:=slotsOf_ok h hz
  refine ⟨v :: vs,by simp [denL,hv,h1],by simp [h2],fun i t' u ht hu=>?_⟩
  cases i with
  | zero=>simp at ht hu;subst ht;subst hu;exact hg
  | succ i=>exact h3 i t' u (by simpa using ht) (by simpa using hu)
theorem tmOf_get:∀ (ts:List Nat) (ys:List AV) (tm:T AV) (k:Nat) (y:AV),small ts=true->(tmOf ts ys tm).get k=some y->(∃ i:Nat,ts[i]?=some k/\ys[i]?=some y) \/ tm.get k=some y
 | [],ys,tm,k,y,_,h=>.inr (by simpa [tmOf] using h)
 | t :: ts,[],tm,k,y,_,h=>.inr (by simpa [tmOf] using h)
 | t :: ts,z :: ys,tm,k,y,hs,h=>by
  simp only [small,List.all_cons,Bool.and_eq_true,Nat.blt_eq] at hs
  simp only [tmOf] at h
  rcases tmOf_get ts ys _ k y hs.2 h with ⟨i,h1,h2⟩ | h
  ·exact .inl ⟨i+1,by simpa using h1,by simpa using h2⟩
  ·rw [T.get_set _ _ _ _ _ (show t+1 < 2 ^ 24 from hs.1)] at h
   by_cases hk:k=t
   ·subst hk
    simp at h
    exact .inl ⟨0,rfl,by simp [h]⟩
   ·rw [if_neg hk] at h
    exact .inr h
theorem boxesOf_get:∀ (bs:List BoxT) (css:List (List AV)) (j:Nat) (h:T ARoot) (k:Nat) (o:ARoot),j+bs.length < 16777215->(Zeo bs css j h).get k=some o->(∃ (i:Nat) (b:BoxT) (c:List AV),bs[i]?=some b/\css[i]?=some c/\k=j+i/\o=Zbh b c) \/ h.get k=some o
 | [],css,j,h,k,o,_,hh=>.inr (by simpa [Zeo] using hh)
 | b :: bs,[],j,h,k,o,_,hh=>.inr (by simpa [Zeo] using hh)
 | b :: bs,c :: css,j,h,k,o,hl,hh=>by
  simp only [Zeo] at hh
  simp only [List.length_cons] at hl
  rcases boxesOf_get bs css (j+1) _ k o (by omega) hh with ⟨i,b',c',h1,h2,h3,h4⟩ | hh
  ·exact .inl ⟨i+1,b',c',by simpa using h1,by simpa using h2,by omega,h4⟩
  ·rw [T.get_set _ _ _ _ _ (show j+1 < 2 ^ 24 by omega)] at hh
   by_cases hk:k=j
   ·subst hk
    simp at hh
    exact .inl ⟨0,b,c,rfl,rfl,rfl,hh.symm⟩
   ·rw [if_neg hk] at hh
    exact .inr hh
theorem nodupN_ok:∀ {l:List Nat} (h:Zjo l=true) (i j:Nat) (r:Nat),l[i]?=some r->l[j]?=some r->i=j
 | [],_,i,j,r,hi,_=>by simp at hi
 | q :: l,h,i,j,r,hi,hj=>by
  simp only [Zjo,Bool.and_eq_true,List.all_eq_true,Bool.not_eq_true'] at h
  have hno:∀ k,l[k]? ≠ some q:=fun k hk=>by
   have:=h.1 q (List.mem_of_getElem? hk)
   simp at this
  cases i with
  | zero =>
   cases j with
   | zero=>rfl
   | succ j=>simp at hi hj;subst hi;exact absurd hj (hno j)
  | succ i =>
   cases j with
   | zero=>simp at hi hj;subst hj;exact absurd hi (hno i)
   | succ j=>rw [nodupN_ok h.2 i j r (by simpa using hi) (by simpa using hj)]
theorem Zeh:∀ (ks:List (Option Bool)) (i q:Nat) (x:SX × Bool),(Zau ks i)[q]?=some x->∃ (j:Nat) (b:Bool),ks[j]?=some (some b)/\x=(.var (i+j),b)/\(ks.take j).countP (·.isSome)=q
 | [],i,q,x,h=>by simp [Zau] at h
 | some b :: ks,i,q,x,h=>by
  cases q with
  | zero=>simp [Zau] at h;exact ⟨0,b,rfl,by simp [<- h],rfl⟩
  | succ q =>
   obtain ⟨j,b',h1,h2,h3⟩:=Zeh ks (i+1) q x (by simpa [Zau] using h)
   exact ⟨j+1,b',by simpa using h1,by rw [h2];congr 2;omega,by simp [h3]⟩
 | none :: ks,i,q,x,h=>by
  obtain ⟨j,b',h1,h2,h3⟩:=Zeh ks (i+1) q x (by simpa [Zau] using h)
  exact ⟨j+1,b',by simpa using h1,by rw [h2];congr 2;omega,by simp [h3]⟩
theorem Zeg:∀ (ks:List (Option Bool)) (i:Nat),(Zau ks i).length=ks.countP (·.isSome)
 | [],i=>rfl
 | some b :: ks,i=>by simp [Zau,Zeg ks]
 | none :: ks,i=>by simp [Zau,Zeg ks]
theorem Zfj {m:Map}:∀ (ks:List (Option Bool)) (i q:Nat) (us:List Value),us.length=ks.length->(∀ (j:Nat) (u:Value),ks[j]?=some none->us[j]?=some u->(AV.sym (.var (i+j))).den m=some u) →
  (∀ (j:Nat) (b:Bool) (u:Value),ks[j]?=some (some b)->us[j]?=some u->(AV.dat (q+(ks.take j).countP (·.isSome))).den m=some u)->denL m (Zej ks i q)=some us
 | [],i,q,us,hl,_,_=>by
  have:us=[]:=List.eq_nil_of_length_eq_zero (by simpa using hl)
  subst this;rfl
 | some b :: ks,i,q,[],hl,_,_=>by simp at hl
 | none :: ks,i,q,[],hl,_,_=>by simp at hl
 | some b :: ks,i,q,u :: us,hl,h1,h2=>by
  have ih:=Zfj (m:=m) ks (i+1) (q+1) us (by simpa using hl) (fun j v hk hv=>by
   have:=h1 (j+1) v (by simpa using hk) (by simpa using hv)
   rwa [show i+(j+1)=i+1+j by omega] at this) (fun j b' v hk hv=>by
   have:=h2 (j+1) b' v (by simpa using hk) (by simpa using hv)
   simp only [List.take_succ_cons,List.countP_cons,Option.isSome_some,if_true] at this
   rwa [show q+((ks.take j).countP (·.isSome)+1)=q+1+(ks.take j).countP (·.isSome) by omega] at this)
  have h0:=h2 0 b u rfl rfl
  simp only [List.take_zero,List.countP_nil,Nat.add_zero] at h0
  simp only [Zej,denL,h0,ih,Option.bind_some,Option.map_some]
 | none :: ks,i,q,u :: us,hl,h1,h2=>by
  have ih:=Zfj (m:=m) ks (i+1) q us (by simpa using hl) (fun j v hk hv=>by
   have:=h1 (j+1) v (by simpa using hk) (by simpa using hv)
   rwa [show i+(j+1)=i+1+j by omega] at this) (fun j b' v hk hv=>by
   have:=h2 (j+1) b' v (by simpa using hk) (by simpa using hv)
   simpa using this)
  have h0:=h1 0 u rfl rfl
  simp only [Nat.add_zero] at h0
  simp only [Zej,denL,h0,ih,Option.bind_some,Option.map_some]
end Go.Proofs.Ytcaclmdkhffegaa.eng
end

section
/- The engine: from a state by names to a shape, held; pieces of code, loops, contracts. -/
namespace Go.Proofs.Ytcaclmdkhffegaa.eng
open Go Go.RowKit
variable {W0 : Base}
set_option linter.unusedVariables false
set_option linter.unusedSimpArgs false

theorem Zfi:∀ (ks:List (Option Bool)) (i j:Nat) (b:Bool),ks[j]?=some (some b)->(Zau ks i)[(ks.take j).countP (·.isSome)]?=some (.var (i+j),b)
 | [],i,j,b,h=>by simp at h
 | some b' :: ks,i,j,b,h=>by
  cases j with
  | zero=>simp at h;subst h;simp [Zau]
  | succ j =>
   have:=Zfi ks (i+1) j b (by simpa using h)
   simp only [List.take_succ_cons,List.countP_cons,Option.isSome_some,if_true,Zau,List.getElem?_cons_succ]
   rw [this,show i+1+j=i+(j+1) by omega]
 | none :: ks,i,j,b,h=>by
  cases j with
  | zero=>simp at h
  | succ j =>
   have:=Zfi ks (i+1) j b (by simpa using h)
   simp only [List.take_succ_cons,List.countP_cons,Zau]
   simp only [Option.isSome_none,Bool.false_eq_true,if_false,Nat.add_zero]
   rw [this,show i+1+j=i+(j+1) by omega]
theorem unfillB_us {m:Map} {rho:List (Nat × Nat)}:∀ (bs:List BoxT) (css:List (List AV)) {ls:List AV},Zcn rho bs css=some ls->(∀ (j:Nat) (c:List AV),css[j]?=some c->∃ vs,denL m c=some vs)->∃ us,denL m ls=some us
 | [],[],ls,h,hd=>by
  simp only [Zcn,Option.some.injEq] at h
  subst h
  exact ⟨[],rfl⟩
 | [],_ :: _,ls,h,hd=>by simp [Zcn] at h
 | _ :: _,[],ls,h,hd=>by simp [Zcn] at h
 | b :: bs,c :: css,ls,h,hd=>by
  simp only [Zcn,Option.bind_eq_some_iff,Option.map_eq_some_iff] at h
  obtain ⟨l1,hl1,l2,hl2,rfl⟩:=h
  obtain ⟨vs,hvs⟩:=hd 0 c rfl
  obtain ⟨us1,g1⟩:=Zch b.cells c hl1 hvs
  obtain ⟨us2,g3⟩:=unfillB_us bs css hl2 (fun j c hc=>hd (j+1) c (by simpa using hc))
  exact ⟨us1++us2,Zah g1 g3⟩
theorem unfillB_ok {m m2:Map} {rho:List (Nat × Nat)} (hm:∀ j r v,rho[j]?=some (r,v)->m2 j 0=m r v) {W:List (Nat × Nat × SX)} (ho:OwnGo m m2 rho W):∀ (bs:List BoxT) (css:List (List AV)) {ls:List AV},Zcn rho bs css=some ls->(∀ (j:Nat) (c:List AV),css[j]?=some c->∃ vs,denL m c=some vs)->(∀ t ∈ Zb0 bs css,t ∈ W) →
  css.length=bs.length/\∃ us,denL m ls=some us/\∀ (ls' rest:List AV),denL m2 ls'=some us->∃ css',fillB bs (ls'++rest)=some (css',rest)/\css'.length=bs.length/\∀ (j:Nat) (c c':List AV) (vs:List Value),css[j]?=some c->css'[j]?=some c'->denL m c=some vs->denL m2 c'=some vs
 | [],[],ls,h,hd,hW=>by
  simp only [Zcn,Option.some.injEq] at h
  subst h
  refine ⟨rfl,[],rfl,fun ls' rest hl=>?_⟩
  have:=Zab hl
  have:ls'=[]:=List.eq_nil_of_length_eq_zero (by simpa using this.symm)
  subst this
  exact ⟨[],rfl,rfl,fun j c c' vs h=>by simp at h⟩
 | [],_ :: _,ls,h,hd,hW=>by simp [Zcn] at h
 | _ :: _,[],ls,h,hd,hW=>by simp [Zcn] at h
 | b :: bs,c :: css,ls,h,hd,hW=>by
  simp only [Zcn,Option.bind_eq_some_iff,Option.map_eq_some_iff] at h
  obtain ⟨l1,hl1,l2,hl2,rfl⟩:=h
  obtain ⟨vs,hvs⟩:=hd 0 c rfl
  obtain ⟨us1,g1,g2⟩:=Zci hm ho b.cells c hl1 hvs (fun t ht=>hW t (by simp [Zb0,ht]))
  obtain ⟨e0,us2,g3,g4⟩:=unfillB_ok hm ho bs css hl2 (fun j c hc=>hd (j+1) c (by simpa using hc)) (fun t ht=>hW t (by simp [Zb0,ht]))
  refine ⟨by simp [e0],us1++us2,Zah g1 g3,fun ls' rest hl=>?_⟩
  have hlen:=Zab hl
  simp only [List.length_append] at hlen
  have t1:=Zck us1.length hl
  have t2:=Zcl us1.length hl
  rw [List.take_left' rfl] at t1
  rw [List.drop_left' rfl] at t2
  obtain ⟨c',f1,f2⟩:=g2 _ (ls'.drop us1.length++rest) t1
  rw [<- List.append_assoc,List.take_append_drop] at f1
  obtain ⟨css',f3,f4,f5⟩:=g4 _ rest t2
  refine ⟨c' :: css',by simp [fillB,f1,f3],by simp [f4],fun j d d' ws hd' hd2 hw=>?_⟩
  cases j with
  | zero =>
   simp at hd' hd2
   subst hd';subst hd2
   rw [hvs] at hw;cases hw
   exact f2
  | succ j=>exact f5 j d d' ws (by simpa using hd') (by simpa using hd2) hw
theorem Zgo {st:St}:∀ {rho:List (Nat × Nat)} {bs:List BoxT} {css:List (List AV)},Zfm st rho bs=some css->∀ (j:Nat) (c:List AV),css[j]?=some c->∃ r b,rho[j]?=some r/\bs[j]?=some b/\boxOk st r b=some c
 | [],[],css,h,j,c,hj=>by simp [Zfm] at h;subst h;simp at hj
 | [],_ :: _,css,h,j,c,hj=>by simp [Zfm] at h
 | _ :: _,[],css,h,j,c,hj=>by simp [Zfm] at h
 | r :: rho,b :: bs,css,h,j,c,hj=>by
  simp only [Zfm,Option.bind_eq_some_iff,Option.map_eq_some_iff] at h
  obtain ⟨c0,hc0,css',hcs,rfl⟩:=h
  cases j with
  | zero=>simp at hj;subst hj;exact ⟨r,b,rfl,rfl,hc0⟩
  | succ j =>
   obtain ⟨r',b',h1,h2,h3⟩:=Zgo hcs j c (by simpa using hj)
   exact ⟨r',b',by simpa using h1,by simpa using h2,h3⟩
theorem boxOk_ok {st:St} {rho:Nat × Nat} {b:BoxT} {c:List AV} (h:boxOk st rho b=some c):∃ o rest,st.heap.get rho.1=some o/\o.vers=(rho.2,o.cells.length) :: rest/\o.elem=b.elem/\o.esz=b.esz/\o.opn=b.opn/\c=o.cells/\o.sym.isSome=b.own.isSome/\o.lent=b.lent/\o.mp=b.mp:=by
 simp only [boxOk,Option.bind_eq_some_iff] at h
 obtain ⟨o,ho,h⟩:=h
 split at h
 ·rename_i v n rest hv
  simp only [cond_eq_ite,Bool.and_eq_true,Nat.beq_eq,beq_iff_eq] at h
  split at h
  ·rename_i hc
   obtain ⟨⟨⟨⟨⟨⟨⟨⟨rfl,rfl⟩,h3⟩,h4⟩,h5⟩,h6⟩,h7⟩,h8⟩,h9⟩:=hc
   simp only [Option.some.injEq] at h
   exact ⟨o,rest,ho,hv,h3,h4,h5,h.symm,h7,h8,h9⟩
  ·cases h
 ·cases h

theorem Zi1 {st:St}:∀ {rho:List (Nat × Nat)} {bs:List BoxT} {es:List SX} {base j k:Nat} {b:BoxT},ownSX st rho bs=some es->Zfw bs base=true->bs[j]?=some b->b.own=some k->∃ r e,rho[j]?=some r/\lookX st r.1 r.2=some e/\base<=k/\es[k - base]?=some e
 | [],[],es,base,j,k,b,h,ho,hb,hk=>by simp at hb
 | [],_ :: _,es,base,j,k,b,h,ho,hb,hk=>by simp [ownSX] at h
 | _ :: _,[],es,base,j,k,b,h,ho,hb,hk=>by simp [ownSX] at h
 | r :: rs,b0 :: bs,es,base,j,k,b,h,ho,hb,hk=>by
  cases hb0:b0.own with
  | none =>
   simp only [ownSX,hb0] at h
   simp only [Zfw,hb0] at ho
   cases j with
   | zero=>simp at hb;subst hb;rw [hb0] at hk;cases hk
   | succ j=>obtain ⟨r',e,h1,h2,h3,h4⟩:=Zi1 h ho (j:=j) (by simpa using hb) hk;exact ⟨r',e,by simpa using h1,h2,h3,h4⟩
  | some k0 =>
   simp only [ownSX,hb0,Option.bind_eq_some_iff,Option.map_eq_some_iff] at h
   obtain ⟨e,hl,es',hes,rfl⟩:=h
   simp only [Zfw,hb0,Bool.and_eq_true,Nat.beq_eq] at ho
   cases j with
   | zero =>
    simp at hb;subst hb
    rw [hb0] at hk;cases hk
    exact ⟨r,e,rfl,hl,by omega,by rw [<- ho.1.1];simp⟩
   | succ j =>
    obtain ⟨r',e',h1,h2,h3,h4⟩:=Zi1 hes ho.2 (j:=j) (by simpa using hb) hk
    exact ⟨r',e',by simpa using h1,h2,by omega,by rw [show k - base=(k - (base+1))+1 by omega];simpa using h4⟩
theorem Zi0 {B:Base} {m:Map} {st:St} {w:World} (hR:Rel B (fun _=>True) m st.heap.get w):∀ {rho:List (Nat × Nat)} {bs:List BoxT} {es:List SX},ownSX st rho bs=some es->∃ qs,evs B.s B.F es=some qs/\qs.length=ownsN bs
 | [],[],es,h=>by simp [ownSX] at h;subst h;exact ⟨[],rfl,rfl⟩
 | [],_ :: _,es,h=>by simp [ownSX] at h
 | _ :: _,[],es,h=>by simp [ownSX] at h
 | r :: rs,b0 :: bs,es,h=>by
  cases hb0:b0.own with
  | none =>
   simp only [ownSX,hb0] at h
   obtain ⟨qs,h1,h2⟩:=Zi0 hR h
   exact ⟨qs,h1,by simp [ownsN,hb0,h2]⟩
  | some k0 =>
   simp only [ownSX,hb0,Option.bind_eq_some_iff,Option.map_eq_some_iff] at h
   obtain ⟨e,hl,es',hes,rfl⟩:=h
   obtain ⟨qs,h1,h2⟩:=Zi0 hR hes
   obtain ⟨o,ho,hs,hv,_⟩:=Zi5 hl
   obtain ⟨b,hb,_⟩:=hR.blk r.1 o trivial ho r.2 0 (by rw [hv];simp)
   obtain ⟨n,cs,g1⟩:=(hR.row r.1 o e r.2 0 b trivial ho hs (by rw [hv];simp) hb).ev
   have g1':e.ev B.s B.F=some (.row n cs):=g1
   exact ⟨.row n cs :: qs,by simp [evs,g1',h1],by simp [ownsN,hb0,h2]⟩
theorem evs_app {s:Nat->Option PV} {F:Fns}:∀ {a b:List SX} {x y:List PV},evs s F a=some x->evs s F b=some y->evs s F (a++b)=some (x++y)
 | [],b,x,y,h1,h2=>by simp [evs] at h1;subst h1;simpa using h2
 | e :: a,b,x,y,h1,h2=>by
  simp only [evs,Option.bind_eq_some_iff,Option.map_eq_some_iff] at h1
  obtain ⟨p,hp,ps,hps,rfl⟩:=h1
  simp [evs,hp,evs_app hps h2]
theorem evs_at {s:Nat->Option PV} {F:Fns}:∀ {a:List SX} {x:List PV} {i:Nat} {e:SX},evs s F a=some x->a[i]?=some e->∃ p,e.ev s F=some p/\x[i]?=some p
 | [],x,i,e,h,hi=>by simp at hi
 | e0 :: a,x,i,e,h,hi=>by
  simp only [evs,Option.bind_eq_some_iff,Option.map_eq_some_iff] at h
  obtain ⟨p,hp,ps,hps,rfl⟩:=h
  cases i with
  | zero=>simp at hi;subst hi;exact ⟨p,hp,rfl⟩
  | succ i=>obtain ⟨q,h1,h2⟩:=evs_at hps (by simpa using hi);exact ⟨q,h1,by simpa using h2⟩

theorem canon_owns {sh:Shape} {path:List Nat} {x:AAct} {st:St} (h:canon sh path=some (x,st)):Zfw sh.boxes sh.rows.length=true:=by
 unfold canon at h
 simp only [Option.bind_eq_some_iff] at h
 obtain ⟨⟨xs,r⟩,h1,⟨css,r'⟩,h2,h⟩:=h
 simp only [cond_eq_ite,Bool.and_eq_true] at h
 split at h
 ·rename_i hc;exact hc.2
 ·cases h
theorem reabs {B:Base} {m:Map} {x:AAct} {st:St} {a:Act} {w:World} (h:At B m x st a w) {sh:Shape} {rho:List (Nat × Nat)} {es:List SX} {fs:List Fact} (hr:Zku sh rho x st=some (es,fs)) (hf:∀ f ∈ fs,f.holds B) (hc:(canon sh []).isSome=true) :
  ∃ qs,evs B.s B.F es=some qs/\Za9 B sh qs a w:=by
 obtain ⟨⟨x2,st2⟩,hcan⟩:=Option.isSome_iff_exists.1 hc
 have hR:=h.rel
 unfold Zku at hr
 cases hck:(x.defers.isEmpty && Nat.beq x.n sh.n && Zjo (rho.map (·.1)) && Nat.beq rho.length sh.boxes.length) with
 | false=>simp [hck] at hr
 | true =>
  simp only [hck,cond_true,Option.bind_eq_some_iff] at hr
  simp only [Bool.and_eq_true,List.isEmpty_iff,Nat.beq_eq] at hck
  obtain ⟨⟨⟨hdef,hn⟩,hnd⟩,hrl⟩:=hck
  obtain ⟨ys,hys,l1,hl1,css,hcss,l2,hl2,⟨es1,fs1⟩,hlv,os,hos,hr⟩:=hr
  obtain ⟨huo,rfl,rfl⟩:Zk7 sh.boxes (Zbj (sh.slots.map (·.2)) ys++Zb0 sh.boxes css)=true/\es=es1++os/\fs=fs1++usesF st rho (Zbj (sh.slots.map (·.2)) ys++Zb0 sh.boxes css):=by
   cases hu:Zk7 sh.boxes (Zbj (sh.slots.map (·.2)) ys++Zb0 sh.boxes css) with
   | false=>simp [hu] at hr
   | true=>simp only [hu,cond_true,Option.some.injEq,Prod.mk.injEq] at hr;exact ⟨rfl,hr.1.symm,hr.2.symm⟩
  have hfu:∀ t ∈ Zbj (sh.slots.map (·.2)) ys++Zb0 sh.boxes css,(Fact.same t.2.2 (.len (Zk2 st rho t.1))).holds B:=fun t ht=>hf _ (List.mem_append_right _ (List.mem_map.2 ⟨t,ht,rfl⟩))
  have hf1:∀ f ∈ fs1,f.holds B:=fun f hf'=>hf f (List.mem_append_left _ hf')
  have hown:=canon_owns hcan
  generalize hW:Zbj (sh.slots.map (·.2)) ys++Zb0 sh.boxes css=W at huo hfu
  obtain ⟨svs,s1,s2,s3⟩:=slotsOf_ok h.tm hys
  have hbox:∀ (j:Nat) (c:List AV),css[j]?=some c->∃ r b o rest b',rho[j]?=some r/\sh.boxes[j]?=some b/\st.heap.get r.1=some o/\o.vers=(r.2,o.cells.length) :: rest/\o.elem=b.elem/\o.esz=b.esz/\o.opn=b.opn/\c=o.cells/\m r.1 r.2=some b'/\Blk m w o b' o.cells.length/\∃ vs,denL m c=some vs:=by
   intro j c hj
   obtain ⟨r,b,g1,g2,g3⟩:=Zgo hcss j c hj
   obtain ⟨o,rest,g4,g5,g6,g7,g8,rfl,g9⟩:=boxOk_ok g3
   obtain ⟨b',hb',hB⟩:=hR.blk r.1 o trivial g4 r.2 o.cells.length (by rw [g5];simp)
   obtain ⟨l,hd⟩:∃ l,denL m o.cells=some l:=by
    cases hmp:o.mp with
    | false =>
     obtain ⟨l,hd,_⟩:=(hB.c hmp).cells (P:=(default:Program)) (off:=0) (k:=o.cells.length) (by omega)
     simp only [Zax,List.drop_zero,List.take_length] at hd
     exact ⟨l,hd⟩
    | true =>
     have h0:=hB
     unfold Blk at h0
     rw [hmp] at h0
     rw [List.eq_nil_of_length_eq_zero h0.1]
     exact ⟨[],rfl⟩
   exact ⟨r,b,o,rest,b',g1,g2,g4,g5,g6,g7,g8,rfl,hb',hB,l,hd⟩
  have hles:=hlv
  let nb:=sh.boxes.length
  obtain ⟨us1,u1⟩:=Zch (sh.slots.map (·.2)) ys hl1 s1
  obtain ⟨us2,u2⟩:=unfillB_us sh.boxes css hl2 (fun j c hj=>by
   obtain ⟨_,_,_,_,_,_,_,_,_,_,_,_,_,_,_,hv⟩:=hbox j c hj
   exact hv)
  obtain ⟨qs1,qe1,q2,q3,fps,q4⟩:=leavesSX_ok hR sh.rows (l1++l2) hlv (Zah u1 u2) hf1
  obtain ⟨qs2,qe2,q5⟩:=Zi0 hR hos
  obtain ⟨qs,hqs⟩:∃ qs,qs=qs1++qs2:=⟨_,rfl⟩
  have q1:evs B.s B.F (es1++os)=some qs:=by rw [hqs];exact evs_app qe1 qe2
  refine ⟨qs,q1,x2,st2,?_⟩
  let us:=us1++us2
  let B2:=B.with qs
  let m2:Map:=⟨fun j v=>if v=0 then (rho[j]?).bind fun r=>m r.1 r.2 else none,fun k=>if nb<=k then match (Zau sh.rows 0)[k - nb]? with | some (.var j,_)=>(us[j]?).map fun u=>(u,fps j) | _=>none else none,B2.sv⟩
  have hm2:∀ j r v,rho[j]?=some (r,v)->m2 j 0=m r v:=fun j r v hj=>by
   show (if (0:Nat)=0 then (rho[j]?).bind fun r=>m r.1 r.2 else none)=_
   rw [if_pos rfl,hj];rfl
  have hcont:∀ (j k:Nat) (b:BoxT),sh.boxes[j]?=some b->b.own=some k->∃ r e,rho[j]?=some r/\lookX st r.1 r.2=some e/\∀ p,B.ev e=some p->B2.ev (.var k)=some p:=fun j k b hb hk=>by
   obtain ⟨r,e,h1,h2,h3,h4⟩:=Zi1 hos hown hb hk
   obtain ⟨p,p1,p2⟩:=evs_at qe2 h4
   refine ⟨r,e,h1,h2,fun p' hp'=>?_⟩
   have hp'':e.ev B.s B.F=some p':=hp'
   rw [p1] at hp''
   cases hp''
   show qs[k]?=some p
   rw [hqs,List.getElem?_append_right (by omega),q2]
   exact p2
  have hgo:OwnGo m m2 rho W:=fun j k sz r v lo len u hj hc0 hjW hden=>by
   have hu:=List.all_eq_true.1 huo _ hjW
   simp only at hu
   split at hu
   ·rename_i b hb
    split at hu
    ·rename_i k' hk
     simp only [Nat.beq_eq] at hu
     subst hu
     obtain ⟨r',e,h1,h2,h3⟩:=hcont j k' b hb hk
     rw [hj] at h1
     cases h1
     obtain ⟨n,f1,f2⟩:=hfu _ hjW
     have hce:Zk2 st rho j=e:=by simp only [Zk2,hj,h2]
     simp only [hce] at f2
     obtain ⟨bb,l,n',hb',g1,g2,rfl⟩:=Zao hR.sv hden
     rw [Zd4 hc0] at g1
     rw [f1] at g2
     simp only [Option.some.injEq,PV.v.injEq,Value.int.injEq,true_and,Int.ofNat_inj] at g1 g2
     have hl0:l=0:=by omega
     subst hl0
     subst g2
     obtain ⟨oX,hoX,hsX,hvX,_⟩:=Zi5 h2
     obtain ⟨k2,cs,z1⟩:=(hR.row _ oX e _ 0 _ trivial hoX hsX (by rw [hvX];simp) hb').ev
     rw [Zbi z1] at f2
     simp only [Option.some.injEq,PV.v.injEq,Value.int.injEq,true_and,Int.ofNat_inj] at f2
     subst f2
     exact Ze8 (W0:=B2) (fun e=>rfl) (by rw [hm2 j r v hj];exact hb') (l:=0) rfl (Zbi (h3 _ z1))
    ·cases hu
   ·cases hu
  obtain ⟨us1',u1',f1⟩:=Zci hm2 hgo (sh.slots.map (·.2)) ys hl1 s1 (fun t ht=>by rw [<- hW];exact List.mem_append_left _ ht)
  rw [u1] at u1';cases u1'
  obtain ⟨hbl,us2',u2',f2⟩:=unfillB_ok hm2 hgo sh.boxes css hl2 (fun j c hj=>by
   obtain ⟨_,_,_,_,_,_,_,_,_,_,_,_,_,_,_,hv⟩:=hbox j c hj
   exact hv) (fun t ht=>by rw [<- hW];exact List.mem_append_right _ ht)
  rw [u2] at u2';cases u2'
  have hlnm:∀ (j:Nat) (r:Nat × Nat) (b:BoxT) (o:ARoot),rho[j]?=some r->sh.boxes[j]?=some b->st.heap.get r.1=some o->o.lent=b.lent/\o.mp=b.mp:=fun j r b o hr hb ho=>by
   have hj:j < css.length:=by rw [hbl];exact (List.getElem?_eq_some_iff.1 hb).1
   obtain ⟨r',b',g1,g2,g3⟩:=Zgo hcss j css[j] (List.getElem?_eq_getElem hj)
   obtain ⟨o',rest,g4,_,_,_,_,_,_,g9⟩:=boxOk_ok g3
   rw [hr] at g1
   rw [hb] at g2
   cases g1
   cases g2
   rw [ho] at g4
   cases g4
   exact g9
  have hlnt:∀ (j:Nat) (r:Nat × Nat) (b:BoxT) (o:ARoot),rho[j]?=some r->sh.boxes[j]?=some b->st.heap.get r.1=some o->o.lent=b.lent:=fun j r b o hr hb ho=>(hlnm j r b o hr hb ho).1
  have hmpe:∀ (j:Nat) (r:Nat × Nat) (b:BoxT) (o:ARoot),rho[j]?=some r->sh.boxes[j]?=some b->st.heap.get r.1=some o->o.mp=b.mp:=fun j r b o hr hb ho=>(hlnm j r b o hr hb ho).2
  have husl:us.length=sh.rows.length:=q3
  have hleaf:∀ (j:Nat) (k:Option Bool) (u:Value),sh.rows[j]?=some k->us[j]?=some u->∃ p,qs[j]?=some p/\Leafs B m st w k p u (fps j):=fun j k u hk hu=>by
   have:j < qs1.length:=by rw [q2];exact (List.getElem?_eq_some_iff.1 hk).1
   exact ⟨qs1[j],by rw [hqs,List.getElem?_append_left this];exact List.getElem?_eq_getElem this,q4 j k _ u hk (List.getElem?_eq_getElem this) hu⟩
  have hd2:∀ (j:Nat) (b:Bool) (u:Value),sh.rows[j]?=some (some b)->us[j]?=some u->m2.d (nb+(sh.rows.take j).countP (·.isSome))=some (u,fps j):=fun j b u hk hu=>by
   have:=Zfi sh.rows 0 j b hk
   show (if nb<=nb+_ then _ else _)=_
   rw [if_pos (Nat.le_add_right _ _),Nat.add_sub_cancel_left,this]
   simp only [Nat.zero_add,hu,Option.map_some]
  have hden:denL m2 (Zej sh.rows 0 nb)=some us:=Zfj sh.rows 0 nb us husl (fun j u hk hu=>by
   obtain ⟨p,hp,hl⟩:=hleaf j none u hk hu
   obtain ⟨v,rfl⟩:=hl.plain rfl
   have hrd:=hl.reads w (fun _ _=>rfl)
   simp only [Reads] at hrd
   obtain ⟨rfl,hone⟩:=hrd
   exact Zbs (W0:=B2) (fun e=>rfl) (by simp [Base.ev,SX.ev,B2,Base.with,hp]) hone) (fun j b u hk hu=>by
   obtain ⟨p,hp,hl⟩:=hleaf j _ u hk hu
   simp only [AV.den,hd2 j b u hk hu,Option.bind_some,(hl.reads w (fun _ _=>rfl)).one,cond_true])
  have hll:=Zab hden
  have t1:=Zck us1.length hden
  have t2:=Zcl us1.length hden
  rw [show us=us1++us2 from rfl,List.take_left' rfl] at t1
  rw [show us=us1++us2 from rfl,List.drop_left' rfl] at t2
  obtain ⟨xs',g1,g2⟩:=f1 _ ((Zej sh.rows 0 nb).drop us1.length) t1
  rw [List.take_append_drop] at g1
  obtain ⟨css',g3,g4,g5⟩:=f2 _ [] t2
  rw [List.append_nil] at g3
  have hcan0:=hcan
  unfold canon at hcan
  rw [g1] at hcan
  simp only [Option.bind_some,g3] at hcan
  cases hck2:(([]:List AV).isEmpty && small (sh.slots.map (·.1)) && Nat.blt (sh.boxes.length+sh.rows.length) 16777215 && Zfw sh.boxes sh.rows.length) with
  | false=>simp only [hck2,cond_false] at hcan;cases hcan
  | true =>
   have hcan':=hcan
   simp only [hck2,cond_true,Option.some.injEq,Prod.mk.injEq] at hcan'
   simp only [Bool.and_eq_true,Nat.blt_eq] at hck2
   obtain ⟨⟨⟨_,hsm⟩,hsz⟩,_⟩:=hck2
   obtain ⟨rfl,rfl⟩:=hcan'
   have hld:(Zau sh.rows 0).length<=sh.rows.length:=by rw [Zeg];exact List.countP_le_length
   have hget:∀ r o,(Za4 (Zau sh.rows 0) sh.boxes.length (Zeo sh.boxes css' 0 .nil)).get r=some o →
     (∃ j b u p,r=nb+(sh.rows.take j).countP (·.isSome)/\sh.rows[j]?=some (some b)/\us[j]?=some u/\qs[j]?=some p/\o=Zb9 (.var j,b)/\Leafs B m st w (some b) p u (fps j)) ∨
     (∃ b c',sh.boxes[r]?=some b/\css'[r]?=some c'/\o=Zbh b c'):=by
    intro r o ho
    rw [Zbc _ _ _ _ (by omega)] at ho
    split at ho
    ·rename_i hr
     obtain ⟨y,hy,rfl⟩:=Option.map_eq_some_iff.1 ho
     obtain ⟨j,b,h1,rfl,h3⟩:=Zeh sh.rows 0 _ y hy
     have hj:j < us.length:=by rw [husl];exact (List.getElem?_eq_some_iff.1 h1).1
     obtain ⟨p,hp,hl⟩:=hleaf j _ us[j] h1 (List.getElem?_eq_getElem hj)
     exact .inl ⟨j,b,us[j],p,by omega,h1,List.getElem?_eq_getElem hj,hp,by simp,hl⟩
    ·rcases boxesOf_get _ _ _ _ _ _ (by omega) ho with ⟨i,b,c,h1,h2,h3,h4⟩ | ho
     ·rw [Nat.zero_add] at h3
      subst h3
      exact .inr ⟨b,c,h1,h2,h4⟩
     ·simp [T.get] at ho
   have hbx:∀ r b c',sh.boxes[r]?=some b->css'[r]?=some c'->∃ q o rest b' c vs,rho[r]?=some q/\st.heap.get q.1=some o/\o.vers=(q.2,o.cells.length) :: rest/\o.elem=b.elem/\o.esz=b.esz/\o.opn=b.opn/\c=o.cells/\m q.1 q.2=some b'/\Blk m w o b' o.cells.length/\denL m c=some vs/\denL m2 c'=some vs/\m2 r 0=some b':=by
    intro r b c' hb hc'
    have hrl':r < css.length:=by rw [hbl];exact (List.getElem?_eq_some_iff.1 hb).1
    obtain ⟨q,b1,o,rest,b',k1,k2,k3,k4,k5,k6,k7,k8,k9,k10,vs,k11⟩:=hbox r css[r] (List.getElem?_eq_getElem hrl')
    rw [hb] at k2
    cases k2
    exact ⟨q,o,rest,b',css[r],vs,k1,k3,k4,k5,k6,k7,k8,k9,k10,k11,g5 r _ _ vs (List.getElem?_eq_getElem hrl') hc' k11,by rw [hm2 r q.1 q.2 k1];exact k9⟩
   have hv0:∀ r o v n,(Za4 (Zau sh.rows 0) sh.boxes.length (Zeo sh.boxes css' 0 .nil)).get r=some o->(v,n) ∈ o.vers->∃ b c',sh.boxes[r]?=some b/\css'[r]?=some c'/\o=Zbh b c'/\v=0/\n=c'.length:=by
    intro r o v n ho hv
    rcases hget r o ho with ⟨j,b,u,p,_,_,_,_,rfl,_⟩ | ⟨b,c',h1,h2,rfl⟩
    ·simp [Zb9] at hv
    ·simp only [Zbh,List.mem_singleton,Prod.mk.injEq] at hv
     exact ⟨b,c',h1,h2,rfl,hv.1,hv.2⟩
   refine ⟨m2,hcan0,by rw [hqs,List.length_append,q2,q5],⟨⟨?_,?_,?_,hR.size0,hR.amb,?_,?_,?_,fun e=>rfl,hR.same,?_,?_⟩,?_,⟨?_,?_,?_⟩⟩⟩
   ·intro r o _ ho v n hv
    obtain ⟨b,c',h1,h2,rfl,rfl,rfl⟩:=hv0 r o v n ho hv
    obtain ⟨q,o,rest,b',c,vs,k1,k2,k3,k4,k5,k6,k7,k8,k9,k10,k11,k12⟩:=hbx r b c' h1 h2
    refine ⟨b',k12,?_⟩
    have hme:=hmpe r q b o k1 h1 k2
    cases hmp:o.mp with
    | true =>
     unfold Blk at k9
     rw [hmp] at k9
     obtain ⟨k90,k91⟩:=k9
     unfold Blk
     rw [show (Zbh b c').mp=true by show b.mp=true;rw [<- hme,hmp]]
     subst k7
     have hlc:c'.length=o.cells.length:=(Zab k11).symm.trans (Zab k10)
     exact ⟨by omega,k91⟩
    | false =>
    replace k9:=k9.c hmp
    refine BlkC.b ?_ (show b.mp=false by rw [<- hme,hmp])
    obtain ⟨cc,fz,z1,z2,z3,z4,z5,z6⟩:=k9
    subst k7
    have hlc:c'.length=o.cells.length:=(Zab k11).symm.trans (Zab k10)
    refine ⟨cc,fz,by simp only [Zbh];rw [<- k4];exact z1,z2,Nat.le_refl _,by omega,fun i y hi hy=>?_,?_⟩
    ·obtain ⟨v,hv1,hv2⟩:=Za6 k11 hy
     have hio:i < o.cells.length:=by omega
     obtain ⟨v',hv3,hv4⟩:=z5 i o.cells[i] (by omega) (List.getElem?_eq_getElem hio)
     obtain ⟨v'',hv5,hv6⟩:=Za6 k10 (List.getElem?_eq_getElem hio)
     rw [hv3] at hv5
     cases hv5
     rw [hv2] at hv6
     cases hv6
     exact ⟨v,hv1,hv4⟩
    ·simp only [Zbh]
     rw [<- k6,<- k5]
     cases ho:o.opn with
     | true=>simp only [ho,cond_true] at z6 ⊢;exact z6
     | false=>simp only [ho,cond_false] at z6 ⊢;omega
   ·intro r r' o o' v n v' n' b1 b1' _ _ ho ho' hv hv' hb hb' he
    obtain ⟨b,c',h1,h2,rfl,rfl,rfl⟩:=hv0 r o v n ho hv
    obtain ⟨bb,cc',h1',h2',rfl,rfl,rfl⟩:=hv0 r' o' v' n' ho' hv'
    obtain ⟨q,oo,rest,b',c,vs,k1,k2,k3,k4,k5,k6,k7,k8,k9,k10,k11,k12⟩:=hbx r b c' h1 h2
    obtain ⟨q',oo',rest',b'',c'',vs',j1,j2,j3,j4,j5,j6,j7,j8,j9,j10,j11,j12⟩:=hbx r' bb cc' h1' h2'
    rw [k12] at hb
    rw [j12] at hb'
    cases hb;cases hb'
    have:=hR.inj q.1 q'.1 oo oo' q.2 oo.cells.length q'.2 oo'.cells.length _ _ trivial trivial k2 j2 (by rw [k3];simp) (by rw [j3];simp) k8 j8 he
    exact nodupN_ok hnd r r' q.1 (by rw [List.getElem?_map,k1];rfl) (by rw [List.getElem?_map,j1,this];rfl)
   ·intro r o v n rest _ ho hv v' hlt
    obtain ⟨b,c',h1,h2,rfl,rfl,rfl⟩:=hv0 r o v n ho (by rw [hv];simp)
    show (if v'=0 then _ else none)=none
    rw [if_neg (by omega)]
   ·intro r o v n b1 _ ho hv hb
    obtain ⟨b,c',h1,h2,rfl,rfl,rfl⟩:=hv0 r o v n ho hv
    obtain ⟨q,oo,rest,b',c,vs,k1,k2,k3,k4,k5,k6,k7,k8,k9,k10,k11,k12⟩:=hbx r b c' h1 h2
    rw [k12] at hb
    cases hb
    have hl:oo.lent=b.lent:=hlnt r q b oo k1 h1 k2
    have:=hR.abv q.1 oo q.2 oo.cells.length _ trivial k2 (by rw [k3];simp) k8
    rw [hl] at this
    exact this
   ·intro r o e _ ho hd
    rcases hget r o ho with ⟨j,b,u,p,rfl,h1,h2,h3,rfl,hl⟩ | ⟨b,c',h1,h2,rfl⟩
    ·simp only [Zb9,Option.some.injEq] at hd
     subst hd
     refine ⟨u,fps j,hd2 j b u h1 h2,(hl.reads w (fun _ _=>rfl)).one,hl.lt,fun w2 hw2=>⟨p,by simp [Base.ev,SX.ev,Base.with,h3],hl.reads w2 hw2⟩⟩
    ·simp [Zbh] at hd
   ·intro r o e v fp r' o' u' n b1 _ _ ho hd hm ho' hu' hb hfp
    obtain ⟨b,c',h1',h2',rfl,rfl,rfl⟩:=hv0 r' o' u' n ho' hu'
    obtain ⟨q,oo,rest,b',c,vs,k1,k2,k3,k4,k5,k6,k7,k8,k9,k10,k11,k12⟩:=hbx r' b c' h1' h2'
    rw [k12] at hb
    cases hb
    rcases hget r o ho with ⟨j,b2,u,p,rfl,h1,h2,h3,rfl,hl⟩ | ⟨b2,c2,h1,h2,rfl⟩
    ·rw [hd2 j b2 u h1 h2] at hm
     cases hm
     obtain ⟨r3,o3,e3,v3,fp3,_,h3',d3,m3,k3'⟩:=hl.hangs _ hfp
     exact hR.disj r3 o3 e3 v3 fp3 q.1 oo q.2 oo.cells.length _ trivial trivial h3' d3 m3 k2 (by rw [k3];simp) k8 k3'
    ·simp [Zbh] at hd
   ·intro r o e v fp _ ho hd hm hro k hk
    rcases hget r o ho with ⟨j,b2,u,p,rfl,h1,h2,h3,rfl,hl⟩ | ⟨b2,c2,h1,h2,rfl⟩
    ·rw [hd2 j b2 u h1 h2] at hm
     cases hm
     simp only [Zb9] at hro
     subst hro
     exact hl.fpb rfl k hk
    ·simp [Zbh] at hd
   ·intro r o e v n b1 _ ho hs hv hb
    obtain ⟨b,c',h1,h2,rfl,rfl,rfl⟩:=hv0 r o v n ho hv
    obtain ⟨q,oo,rest,b',c,vs,k1,k2,k3,k4,k5,k6,k7,k8,k9,k10,k11,k12⟩:=hbx r b c' h1 h2
    rw [k12] at hb
    cases hb
    simp only [Zbh,Option.map_eq_some_iff] at hs
    obtain ⟨k,hk,rfl⟩:=hs
    obtain ⟨r',e,g1,g2,g3⟩:=hcont r k b h1 hk
    rw [k1] at g1
    cases g1
    obtain ⟨o2,y1,y2,y3,y4,y5⟩:=Zi5 g2
    rw [k2] at y1
    cases y1
    have hro:=hR.row q.1 oo e q.2 0 _ trivial k2 y2 (by rw [y3];simp) k8
    have hme:=hmpe r q b oo k1 h1 k2
    cases hmp:oo.mp with
    | true =>
     cases hop:oo.opn with
     | false =>
      obtain ⟨cs,es,ck,z1,z2⟩:=hro.m hmp hop
      unfold RowAt
      rw [show (Zbh b c').mp=true by show b.mp=true;rw [<- hme,hmp],show (Zbh b c').opn=false by show b.opn=false;rw [<- k6,hop]]
      exact ⟨cs,es,ck,g3 _ z1,z2⟩
     | true =>
      obtain ⟨cs,es,ck,z1,z2⟩:=hro.mi hmp hop
      unfold RowAt
      rw [show (Zbh b c').mp=true by show b.mp=true;rw [<- hme,hmp],show (Zbh b c').opn=true by show b.opn=true;rw [<- k6,hop]]
      exact ⟨cs,es,ck,g3 _ z1,z2⟩
    | false =>
     obtain ⟨n2,cs,cc,fz,z1,z2,z3,z4,z5⟩:=hro.c hmp
     unfold RowAt
     rw [show (Zbh b c').mp=false by show b.mp=false;rw [<- hme,hmp]]
     refine ⟨n2,cs,cc,fz,g3 _ z1,?_,z3,?_⟩
     ·simp only [Zbh];rw [<- k4];exact z2
     ·simp only [Zbh];rw [<- k5];exact ⟨z4,z5⟩
   ·intro r _ hr
    have hr':sh.boxes.length+(Zau sh.rows 0).length<=r:=hr
    refine ⟨fun v=>?_,?_⟩
    ·show (if v=0 then (rho[r]?).bind fun r=>m r.1 r.2 else none)=none
     have:rho[r]?=none:=List.getElem?_eq_none (by omega)
     rw [this];simp
    ·show (if nb<=r then _ else none)=none
     have:(Zau sh.rows 0)[r - nb]?=none:=List.getElem?_eq_none (by show _<=r - sh.boxes.length;omega)
     rw [this];simp
   ·rw [h.tm.size];exact hn
   ·intro t y hy
    simp only at hy
    rcases tmOf_get _ _ _ _ _ hsm hy with ⟨i,h1,h2⟩ | hy
    ·obtain ⟨v,hv1,hv2⟩:=Za6 g2 h2
     exact ⟨v,hv1,s3 i t v h1 hv2⟩
    ·simp [T.get] at hy
   ·have:=h.tm.defers
    rw [hdef] at this
    exact this
end Go.Proofs.Ytcaclmdkhffegaa.eng
end

section
/- The engine: pieces of code from shape to shape; loops; contracts out of pieces. -/
namespace Go.Proofs.Ytcaclmdkhffegaa.eng
open Go Go.RowKit
variable {W0 : Base}
set_option linter.unusedVariables false
set_option linter.unusedSimpArgs false

def flat:Code->List Code
 | .seq a b=>flat a++flat b
 | c=>[c]
def wpL (P:Program):List Code->(Exit->Act->World->Prop)->Act->World->Prop
 | [],Q,a,w=>Q .normal a w
 | c :: cs,Q,a,w=>c.wp P (Exit.then (wpL P cs Q) Q) a w
theorem then_mono {P:Program} {K K':Act->World->Prop} {Q Q':Exit->Act->World->Prop} (hK:∀ a w,K a w->K' a w) (hQ:∀ e a w,e ≠ .normal->Q e a w->Q' e a w) {e:Exit} {a:Act} {w:World} (h:Exit.then K Q e a w):Exit.then K' Q' e a w:=by
 cases e with
 | normal=>exact hK _ _ h
 | _=>exact hQ _ _ _ (by simp) h
theorem wpL_mono {P:Program}:∀ (cs:List Code) {Q Q':Exit->Act->World->Prop} {a:Act} {w:World},(∀ e a w,Q e a w->Q' e a w)->wpL P cs Q a w->wpL P cs Q' a w
 | [],Q,Q',a,w,hQ,h=>hQ _ _ _ h
 | c :: cs,Q,Q',a,w,hQ,h=>wp_mono h fun e a w he=>then_mono (P:=P) (fun a w h=>wpL_mono cs hQ h) (fun e a w _ h=>hQ e a w h) he
theorem Zjz {P:Program}:∀ (c:Code) (k:List Code) {Q:Exit->Act->World->Prop} {a:Act} {w:World},wpL P (flat c++k) Q a w->c.wp P (Exit.then (wpL P k Q) Q) a w
 | .seq p q,k,Q,a,w,h=>by
  simp only [flat,List.append_assoc] at h
  refine wp_seq (wp_mono (Zjz p (flat q++k) h) ?_)
  intro e a w he
  cases e with
  | normal=>exact Zjz q k he
  | _=>exact he
 | .skip,k,Q,a,w,h=>h
 | .region ..,k,Q,a,w,h=>h
 | .cond ..,k,Q,a,w,h=>h
 | .block ..,k,Q,a,w,h=>h
 | .loop ..,k,Q,a,w,h=>h
 | .rangeFunc ..,k,Q,a,w,h=>h
 | .exit ..,k,Q,a,w,h=>h
 | .scope ..,k,Q,a,w,h=>h
 | .label ..,k,Q,a,w,h=>h
 | .goto ..,k,Q,a,w,h=>h
 | .ret,k,Q,a,w,h=>h
 | .refuse ..,k,Q,a,w,h=>h
theorem Zeu {P:Program} {c:Code} {Q:Exit->Act->World->Prop} {a:Act} {w:World} (h:wpL P (flat c) Q a w):c.wp P Q a w:=by
 refine wp_mono (Zjz c [] (by rwa [List.append_nil])) ?_
 intro e a w he
 cases e with
 | normal=>exact he
 | _=>exact he

def Zjt (E:Eng):List Code->AAct->St->CR
 | [],x,st=>some (.normal,x,st,Log.no)
 | c :: cs,x,st=>seqA (E.code c x st) (Zjt E cs)
theorem codesA_ok {P:Program} {E:Eng} (hE:EngOk P E):∀ (l l2:List Code) (x:AAct) (st:St) (e:AX) (x':AAct) (st':St) (lg:Log),Zjt E l x st=some (e,x',st',lg)->∀ (A:Nat->Prop) (m:Map) (a:Act) (w:World),lg.Fits W0 A->Rel W0 A m st.heap.get w->Fresh A m st.next->TRel m x a →
  ∀ (Q:Exit->Act->World->Prop),(∀ m' a' w',Ok W0 A m st w m' st' lg w'->TRel m' x' a'->(e=.normal->wpL P l2 Q a' w')/\(e ≠ .normal->∀ u:Value,Q (e.to u) a' w'))->wpL P (l++l2) Q a w
 | [],l2,x,st,e,x',st',lg,h,A,m,a,w,hA,hR,hF,hT,Q,hQ=>by
  simp only [Zjt,Option.some.injEq,Prod.mk.injEq] at h
  obtain ⟨rfl,rfl,rfl,rfl⟩:=h
  exact (hQ m a w (Ok.refl hR hF) hT).1 rfl
 | c :: l,l2,x,st,e,x',st',lg,h,A,m,a,w,hA,hR,hF,hT,Q,hQ=>by
  simp only [Zjt,seqA,Option.bind_eq_some_iff] at h
  obtain ⟨⟨e1,x1,st1,l1⟩,hp,h⟩:=h
  show c.wp P (Exit.then (wpL P (l++l2) Q) Q) a w
  cases e1 with
  | normal =>
   simp only [Option.map_eq_some_iff] at h
   obtain ⟨⟨e2,x2,st2,lg2⟩,hq,he⟩:=h
   cases he
   refine wp_mono (hE.code c x st _ _ _ _ hp W0 A m a w (or_A hA).1 hR hF hT) ?_
   rintro ex a1 w1 ⟨m1,hok,hT1,u1,rfl⟩
   exact codesA_ok hE l l2 x1 st1 _ _ _ lg2 hq A m1 a1 w1 (or_A hA).2 hok.rel hok.fresh hT1 Q (fun m' a' w' hok' hT'=>hQ m' a' w' (hok.trans hok') hT')
  | _ =>
   simp only [Option.some.injEq,Prod.mk.injEq] at h
   obtain ⟨rfl,rfl,rfl,rfl⟩:=h
   refine wp_mono (hE.code c x st _ _ _ _ hp W0 A m a w hA hR hF hT) ?_
   rintro ex a1 w1 ⟨m1,hok,hT1,u1,rfl⟩
   exact (hQ m1 a1 w1 hok hT1).2 (by simp) u1

def segTo (P:Program) (O:Orc) (n:Nat) (cs:List Code) (sh:Shape) (path:List Nat) (sh':Shape) (rho:List (Nat × Nat)) (H:FuncId->Oper->Option Hint:=fun _ _=>none):Option (AX × List Fact × List SX) :=
 (canon sh path).bind fun (x,st)=>(Zjt (Zlf P O n H) cs x st).bind fun (e,x',st',lg)=>(Zku sh' rho x' st').bind fun (es,fs)=>cond ((canon sh' []).isSome && e.tame) (some (e,lg.V++fs,es)) none
theorem canon_path {sh:Shape} {path:List Nat} {x:AAct} {st:St} (h:canon sh path=some (x,st)):∃ st0,canon sh []=some (x,st0)/\st={ st0 with path:=path }:=by
 unfold canon at h ⊢
 simp only [Option.bind_eq_some_iff] at h
 obtain ⟨⟨xs,r⟩,h1,⟨css,r'⟩,h2,h⟩:=h
 simp only [h1,h2,Option.bind_some]
 cases hc:(r'.isEmpty && small (sh.slots.map (·.1)) && Nat.blt (sh.boxes.length+sh.rows.length) 16777215 && Zfw sh.boxes sh.rows.length) with
 | false=>simp only [hc,cond_false] at h;cases h
 | true =>
  simp only [hc,cond_true,Option.some.injEq,Prod.mk.injEq] at h
  obtain ⟨rfl,rfl⟩:=h
  exact ⟨_,rfl,rfl⟩
theorem Zaq (hN:GoodP Try.prog) (hM:Try.prog.follows .mixedOrders=true) {O:Orc} (hO:OrcOk Try.prog O) {n:Nat} {l l2:List Code} {sh sh':Shape} {path:List Nat} {rho:List (Nat × Nat)} {H:FuncId->Oper->Option Hint} {e:AX} {fs:List Fact} {es:List SX}
  (hrun:segTo Try.prog O n l sh path sh' rho H=some (e,fs,es)) {C:Base} {ps:List PV} {a:Act} {w:World} (h:Za9 C sh ps a w) (hf:∀ x ∈ fs,x.holds (C.with ps)) {Q:Exit->Act->World->Prop}
  (hQ:∀ qs a' w',evs (fun i=>ps[i]?) C.F es=some qs->Za9 C sh' qs a' w'->(e=.normal->wpL Try.prog l2 Q a' w')/\(e ≠ .normal->Q e.to a' w')):wpL Try.prog (l++l2) Q a w:=by
 simp only [segTo,Option.bind_eq_some_iff] at hrun
 obtain ⟨⟨x,st⟩,hcan,⟨e',x',st',lg⟩,hcode,⟨es',fs'⟩,hrd,hrun⟩:=hrun
 cases hc:(canon sh' []).isSome with
 | false=>simp [hc] at hrun
 | true =>
  cases htame:e'.tame with
  | false=>simp [htame] at hrun
  | true =>
  simp only [hc,htame,Bool.and_self,cond_true,Option.some.injEq,Prod.mk.injEq] at hrun
  obtain ⟨rfl,rfl,rfl⟩:=hrun
  obtain ⟨x0,st0,m,h0,hl,hat⟩:=h
  obtain ⟨st1,h1,rfl⟩:=canon_path hcan
  rw [h0] at h1
  cases h1
  refine codesA_ok (W0:=C.with ps) (theEng_ok hN hM hO n) l l2 x _ _ _ _ _ hcode (fun _=>True) m a w ⟨fun _ _=>trivial,fun f hf'=>hf f (by simp [hf'])⟩ hat.rel hat.fresh hat.tm Q ?_
  intro m' a' w' hok hT'
  obtain ⟨qs,q1,q2⟩:=reabs (B:=C.with ps) ⟨hok.rel,hok.fresh,hT'⟩ hrd (fun f hf'=>hf f (by simp [hf'])) hc
  have hq:=hQ qs a' w' q1 q2
  exact ⟨hq.1,fun hne u=>by rw [AX.to_tame htame u undef];exact hq.2 hne⟩

theorem loop_rule {P:Program} {c:Code} {Q:Exit->Act->World->Prop} (I:Nat->Act->World->Prop) (h:∀ n a w,I n a w->c.wp P (fun e a' w'=>(e=.normal/\∃ n',n' < n/\I n' a' w') \/ (e ≠ .normal/\(∀ l,e ≠ .goto l)/\Q e a' w')) a w):∀ n a w,I n a w->(Code.loop c).wp P Q a w:=by
 have key:∀ n a w,I n a w->LoopWp P c Q a w:=by
  intro n
  induction n using Nat.strongRecOn with
  | ind n ih =>
   intro a w hI b k cs
   obtain ⟨e,a1,w1,hq,harr⟩:=h n a w hI b (.inLoop c :: k) cs
   rcases hq with ⟨rfl,n',hn',hI'⟩ | ⟨hne,hng,hq⟩
   ·obtain ⟨e2,a2,w2,hq2,harr2⟩:=ih n' hn' a1 w1 hI' b k cs
    exact ⟨e2,a2,w2,hq2,.of_steps (Steps.trans harr (.one step_inLoop)) harr2⟩
   ·refine ⟨e,a1,w1,hq,?_⟩
    cases e with
    | normal=>exact absurd rfl hne
    | goto l=>exact absurd rfl (hng l)
    | exit id=>exact .pass (x:=.inLoop c) rfl (fun _ _=>.inl (by simp)) harr
    | ret=>exact .pass (x:=.inLoop c) rfl (fun _ _=>.inl (by simp)) harr
    | panic ch=>exact .pass (x:=.inLoop c) rfl (fun _ _=>.inl (by simp)) harr
    | outgrown=>exact .pass (x:=.inLoop c) rfl (fun _ _=>.inl (by simp)) harr
 intro n a w hI b k cs
 obtain ⟨e,a',w',hq,harr⟩:=key n a w hI b k cs
 exact ⟨e,a',w',hq,.of_steps (.one step_loop) harr⟩
theorem Ze4 {P:Program} {id:Nat} {b:Code} {k:List Code} {Q:Exit->Act->World->Prop} (I:Nat->Act->World->Prop)
  (h:∀ n a w,I n a w->wpL P (flat b) (fun e a' w'=>(e=.normal/\∃ n',n' < n/\I n' a' w') \/ (e=.exit id/\wpL P k Q a' w') \/ (e=.ret/\Q .ret a' w')) a w) {n:Nat} {a:Act} {w:World} (hI:I n a w):wpL P (.block id (.loop b) :: k) Q a w:=by
 refine wp_block (loop_rule I (fun n a w hI=>wp_mono (Zeu (h n a w hI)) ?_) n a w hI)
 rintro e a' w' (⟨rfl,hn⟩ | ⟨rfl,hk⟩ | ⟨rfl,hq⟩)
 ·exact .inl ⟨rfl,hn⟩
 ·refine .inr ⟨by simp,by simp,?_⟩
  simp only [Exit.inBlock,if_true]
  exact hk
 ·exact .inr ⟨by simp,by simp,hq⟩

def Zkz:List SX->Nat->Bool
 | [],_=>true
 | .var j :: es,i=>Nat.beq j i && Zkz es (i+1)
 | _,_=>false
theorem Zht {s:Nat->Option PV} {F:Fns} {ps:List PV}:∀ (es:List SX) (i:Nat),Zkz es i=true->es.length+i=ps.length->(∀ j p,ps[j]?=some p->s j=some p)->evs s F es=some (ps.drop i)
 | [],i,_,hl,_=>by
  have:ps.drop i=[]:=List.drop_eq_nil_of_le (by simp at hl;omega)
  simp [evs,this]
 | e :: es,i,h,hl,hs=>by
  cases e <;> simp [Zkz] at h
  rename_i j
  obtain ⟨rfl,h⟩:=h
  have hi:j < ps.length:=by simp at hl;omega
  have ih:=Zht (F:=F) es (j+1) h (by simp at hl ⊢;omega) hs
  simp only [evs,SX.ev,hs j _ (List.getElem?_eq_getElem hi),Option.bind_some,ih,Option.map_some]
  rw [List.drop_eq_getElem_cons hi]
def Zfr (rows:List (Option Bool)):List Fact->Bool
 | []=>true
 | .ok (.var j) :: fs=>(match rows[j]? with | some none=>true | _=>false) && Zfr rows fs
 | _=>false
theorem Zc2 {B:Base} {rows:List (Option Bool)} (h:∀ j:Nat,rows[j]?=some none->∃ x,B.s j=some (.v x)/\x.oneCell'=true):∀ (fs:List Fact),Zfr rows fs=true->∀ f ∈ fs,f.holds B
 | [],_,f,hf=>by simp at hf
 | g :: fs,hv,f,hf=>by
  unfold Zfr at hv
  split at hv
  ·rename_i e;cases e
  ·rename_i j fs' e
   cases e
   simp only [Bool.and_eq_true] at hv
   rcases List.mem_cons.1 hf with rfl | hf
   ·have:rows[j]?=some none:=by
     revert hv
     cases hr:rows[j]? with
     | none=>simp
     | some o=>cases o <;> simp
    obtain ⟨x,hx,ho⟩:=h j this
    exact ⟨x,by simpa [Base.ev,SX.ev] using hx,ho⟩
   ·exact Zc2 h _ hv.2 f hf
  ·cases hv
def Zhm (E:FnE) (fn:Func) (f:FuncId) (sh:Shape):Bool:=match Zks E (sh.rows.map fun k=>match k with | some _=>.row | none=>.num) [] with
 | some (args,st,fs)=>Nat.blt args.length 16777215 && Nat.beq sh.rows.length (shLen E.ins) && (canon sh []).isSome && Zfr sh.rows fs && (match Zku sh [] (Zif fn args f) st with | some (es,fs')=>Zkz es 0 && Nat.beq es.length sh.rows.length && Zfr sh.rows fs' | none=>false)
 | none=>false
def resTo (P:Program) (fn:Func) (sh:Shape) (E:FnE):Option (List SX):=(canon sh []).bind fun (x,st)=>(Zgc P fn x st).bind fun (y,l1)=>(Ziy E.outs y).bind fun ys=>(Za0 E.outs ys).bind fun ls=>(Zhp st ls).bind fun (es,l2)=>cond (l1.V.isEmpty && l2.V.isEmpty) (some es) none
theorem Ziq {f:FuncId} {E:FnE} {spec:List PV->Option (List PV)} (F:Fns) (fn:Func) (c:Code) (hfn:Try.prog.funcs[f]?=some fn) (hc:fn.body=some c) (sh0:Shape) (hsh:Zhm E fn f sh0=true)
  (hk:∀ ps qs,spec ps=some qs->∀ i:Nat,sh0.rows[i]?=some none->∃ x,ps[i]?=some (.v x)/\x.oneCell'=true)
  (h:∀ (C:Base) ps qs,C.F=F->spec ps=some qs->∀ a w,Za9 C sh0 ps a w->wpL Try.prog (flat c) (fun e a' w'=>(e=.normal \/ e=.ret)/\∃ sh' ps' es,Za9 C sh' ps' a' w'/\resTo Try.prog fn sh' E=some es/\evs (fun i=>ps'[i]?) F es=some qs) a w) (hpl0:E.kinds.all CK.plain=true:=by rfl):ToldF f E spec:=by
 intro w FP us ps qs hsp hul hpl hFP hrd
 unfold Zhm at hsh
 split at hsh
 ·rename_i args st fs hst
  simp only [Bool.and_eq_true,Nat.blt_eq,Nat.beq_eq] at hsh
  obtain ⟨⟨⟨⟨hal,hrl⟩,hcan⟩,hvf⟩,hread⟩:=hsh
  split at hread
  ·rename_i es fs' hre
   simp only [Bool.and_eq_true,Nat.beq_eq] at hread
   obtain ⟨⟨hiv,hel⟩,hvf'⟩:=hread
   have hk':=hk ps qs hsp
   obtain ⟨m,hR,hF,hargs,hv0,_⟩:=Zhl (F:=F) hst hul hpl hFP hrd (Zc2 (B:=⟨w,fun i=>ps[i]?,F,FP,fun _=>False⟩) hk' fs hvf)
   have hT:=Zg8 (f:=f) (fn:=fn) hargs hal
   obtain ⟨qs',q1,q2⟩:=reabs (B:=⟨w,fun i=>ps[i]?,F,FP,fun _=>False⟩) ⟨hR,hF,hT⟩ hre (Zc2 (B:=⟨w,fun i=>ps[i]?,F,FP,fun _=>False⟩) hk' fs' hvf') hcan
   have:=Zht (s:=fun i=>ps[i]?) (F:=F) (ps:=ps) es 0 hiv (by omega) (fun j p hp=>hp)
   rw [List.drop_zero] at this
   simp only at q1
   rw [this] at q1
   cases q1
   refine calls_of_wp_defers hfn hc (wp_mono (Zeu (h _ ps qs rfl hsp _ w q2)) ?_)
   rintro e a' w' ⟨he,sh',ps',es',⟨x,st1,m1,hc1,hl1,hat⟩,hres,hev⟩
   simp only [resTo,hc1,Option.bind_some,Option.bind_eq_some_iff] at hres
   obtain ⟨⟨y,l1⟩,hy,ys,hys,ls,hls,⟨es2,l2⟩,hes2,hres⟩:=hres
   cases hv:(l1.V.isEmpty && l2.V.isEmpty) with
   | false=>simp [hv] at hres
   | true =>
    simp only [hv,cond_true,Option.some.injEq] at hres
    subst hres
    simp only [Bool.and_eq_true,List.isEmpty_iff] at hv
    obtain ⟨v,hvv,hrun⟩:=Zd6 hy ⟨fun _ _=>trivial,fun f hf=>by rw [hv.1] at hf;cases hf⟩ hat.rel hat.tm
    obtain ⟨us',h1,h2,rfl⟩:=Zix hys hvv hls
    obtain ⟨qs2,h3,h4,h5⟩:=Zed hat.rel hes2 ⟨fun _ _=>trivial,fun f hf=>by rw [hv.2] at hf;cases hf⟩ h1
    have h3':evs (fun i=>ps'[i]?) F es2=some qs2:=h3
    rw [hev] at h3'
    cases h3'
    have hdef:a'.defers=[]:=by
     have:=hat.tm.defers
     have hx:x.defers=[]:=by
      unfold canon at hc1
      simp only [Option.bind_eq_some_iff] at hc1
      obtain ⟨⟨xs,r⟩,_,⟨css,r'⟩,_,hc1⟩:=hc1
      simp only [cond_eq_ite] at hc1
      split at hc1
      ·cases hc1;rfl
      ·cases hc1
     rw [hx] at this
     simpa [denD] using this.symm
    have fin:Leaves Try.prog fn a'.tmps (fun e w'=>∃ (us':List Value) (ow:Nat->Option Nat),us'.length=qs.length/\qs.length=shLen E.outs/\Owns w w' E.kinds qs us' ow/\(∀ (i:Nat) (q:PV) (u:Value),qs[i]?=some q->us'[i]?=some u->∀ w2:World,(∀ k,FP k \/ (w.heap.size<=k/\k < w'.heap.size)->(∀ j,j ≠ i->ow j ≠ some k)->w2.heap[k]?=w'.heap[k]?)->Reads w2 q u)/\e=.returned (Zeq E.outs us')/\Ex w w') a'.defers .returning w':=by
     rw [hdef]
     have hll:=Zab h1
     refine ⟨_,hrun,us',fun _=>none,h4.symm,by omega,Zbm hpl0,fun i q u hq hu w2 hw2=>h5 i q u _ hq hu (List.getElem?_eq_getElem (show i < ls.length by have:=(List.getElem?_eq_some_iff.1 hu).1;omega)) w2 (fun k hk _=>hw2 k ?_ (fun _ _ h=>by cases h)),rfl,⟨hat.rel.same.1,hat.rel.same.2.1,hat.rel.same.2.2,hat.rel.size0,fun k hk=>hat.rel.amb k hk (fun h=>h)⟩⟩
     rcases hk.2 with h | h
     ·exact .inl h
     ·exact .inr ⟨h,hk.1⟩
    rcases he with rfl | rfl
    ·exact fin
    ·exact fin
  ·cases hread
 ·cases hsh

def Zd9 (P:Program) (f:FuncId):Code:=((P.funcs[f]?).bind (·.body)).getD .skip
def nth (l:List Code) (i:Nat):Code:=(l[i]?).getD .skip
def Zcc:Code->Code | .block _ (.loop b)=>b | _=>.skip
def Zda:Code->Nat | .block i _=>i | _=>0
end Go.Proofs.Ytcaclmdkhffegaa.eng
end

section
/- The engine: calls of functions that are told of by a contract and turn what their first argument points to. -/
namespace Go.Proofs.Ytcaclmdkhffegaa.eng
open Go Go.RowKit
variable {W0 : Base}
set_option linter.unusedVariables false
set_option linter.unusedSimpArgs false

def callP (f:FuncId) (E:PtrE) (args:List AV) (st:St):Option (ARet × St × Log):=match args with
 | .ptr r v idx sz sub :: rest=>(getC st r).bind fun o=>match o.vers with
  | (v',n) :: _=>(Za0 E.ins rest).bind fun ls=>(Zen st (ls++o.cells)).bind fun (es,ok,lA)=>(outD (.fn E.k es) E.kinds 0 st.next (st.next+(Zaf E.kinds 0).length) st.path).bind fun (cs,fs,p',os) =>
   cond (Nat.beq v v' && Nat.beq (idx * sz+sub) 0 && ok && !o.ro && !o.opn && Nat.beq n o.cells.length && Nat.beq n E.cells && Nat.beq o.elem E.elem && Nat.blt (st.next+(Zaf E.kinds 0).length+os.length) 16777215 && Nat.beq E.kinds.length (shLen E.outs+E.cells) && (cs.drop (shLen E.outs)).all AV.one)
    ((St.put (resSt st (.fn E.k es) E.kinds p' os) r { o with cells:=cs.drop (shLen E.outs),vers:=[(v,n)],dat:=none,sym:=none }).map fun st' =>
     (.ret (Zfn E.outs (cs.take (shLen E.outs))),st',⟨(1 <<< r) ||| (lA.A ||| Zbt st E.kinds os),(1 <<< r) ||| Zbt st E.kinds os,.fp f E es :: (lA.V++fs)⟩)) none
  | []=>none
 | _=>none
def orcP (tab:FuncId->Option PtrE):Orc:=fun f args st=>(tab f).bind fun E=>callP f E args st
theorem callP_ok {f:FuncId} {E:PtrE} {args:List AV} {st st':St} {r:ARet} {lg:Log} (hr:callP f E args st=some (r,st',lg)) (W0:Base) (A:Nat->Prop) (m:Map) (w:World) (vs:List Value) (hA:lg.Fits W0 A) (hR:Rel W0 A m st.heap.get w) (hF:Fresh A m st.next) (hvs:denL m args=some vs) :
  Calls Try.prog f vs.toArray w (CPost W0 A m st w r st' lg):=by
 unfold callP at hr
 split at hr
 ·rename_i r0 v idx sz sub rest
  simp only [Option.bind_eq_some_iff] at hr
  obtain ⟨o,ho,hr⟩:=hr
  obtain ⟨ho,hmp⟩:=Zkb ho
  split at hr
  ·rename_i v' n rest' hvers
   simp only [Option.bind_eq_some_iff] at hr
   obtain ⟨ls,hls,⟨es,ok,lA⟩,hes,⟨cs,fs,p',os⟩,hout,hr⟩:=hr
   cases hc:(Nat.beq v v' && Nat.beq (idx * sz+sub) 0 && ok && !o.ro && !o.opn && Nat.beq n o.cells.length && Nat.beq n E.cells && Nat.beq o.elem E.elem && Nat.blt (st.next+(Zaf E.kinds 0).length+os.length) 16777215 && Nat.beq E.kinds.length (shLen E.outs+E.cells) && (cs.drop (shLen E.outs)).all AV.one) with
   | false=>simp [hc] at hr
   | true =>
    simp only [hc,cond_true,Option.map_eq_some_iff,Prod.mk.injEq] at hr
    obtain ⟨s1,hput,rfl,rfl,rfl⟩:=hr
    simp only [Bool.and_eq_true,Nat.blt_eq,Nat.beq_eq,Bool.not_eq_true',List.all_eq_true] at hc
    obtain ⟨⟨⟨⟨⟨⟨⟨⟨⟨⟨rfl,hz⟩,rfl⟩,hro⟩,hop⟩,hnl⟩,hnE⟩,hel⟩,hsm⟩,hkl⟩,hone⟩:=hc
    have har:A r0:=hA.1 r0 (Zaj ((Zac _ _).2 rfl))
    have hlA:lA.Fits W0 A:=⟨fun r hr=>hA.1 r (Zam (Zaj hr)),fun f hf=>hA.2 f (by simp [hf])⟩
    simp only [denL,Option.bind_eq_some_iff,Option.map_eq_some_iff] at hvs
    obtain ⟨pv,hpv,rv,hrv,rfl⟩:=hvs
    simp only [AV.den,Option.map_eq_some_iff] at hpv
    obtain ⟨b,hb,rfl⟩:=hpv
    rw [hz]
    obtain ⟨b',hb',hB⟩:=hR.blkC r0 o har ho hmp v n (by rw [hvers];simp)
    rw [hb] at hb';cases hb'
    have hB':=hB
    obtain ⟨c,fz,hcc,hfz,hn1,hn2,hcell,hsize⟩:=hB'
    simp only [hop,cond_false] at hsize
    obtain ⟨l,hd,hll,_,hlc⟩:=hB.cells (P:=(default:Program)) (off:=0) (k:=n) (by omega)
    have hcl:Zax o 0 n=o.cells:=by simp [Zax,hnl]
    rw [hcl] at hd
    have hl:l=c.toList:=by
     apply List.ext_getElem?
     intro i
     by_cases hi:i < l.length
     ·have:=hlc i l[i] (List.getElem?_eq_getElem hi)
      simp only [World.cell?,hcc,Nat.zero_add] at this
      rw [List.getElem?_eq_getElem hi]
      simpa using this.symm
     ·rw [List.getElem?_eq_none (by omega),List.getElem?_eq_none (by simp;omega)]
    subst hl
    obtain ⟨us,hus,hul,rfl⟩:=Zbq E.ins rest hls hrv
    obtain ⟨ps,hps,hpl,hrd⟩:=Zdv hR hes hlA (Zah hus hd)
    obtain ⟨htold,ps',qs,hps',hqs⟩:=hA.2 (.fp f E es) (by simp)
    rw [hps] at hps'
    cases hps'
    have hbm:∀ k,May W0 A m st w k->k < w.heap.size/\k ≠ b.1:=fun k hk=>⟨hk.1,fun he=>by
     obtain ⟨r3,o3,e3,v3,fp3,a3,h3,d3,m3,k3⟩:=hk.2.2
     exact hR.disj r3 o3 e3 v3 fp3 r0 o v n b a3 har h3 d3 m3 ho (by rw [hvers];simp) hb (he ▸ k3)⟩
    have hcl2:c.toList.length=n:=hll
    refine (htold w (May W0 A m st w) b.1 c fz us ps qs hqs hul (by rw [hpl,List.length_append];omega) (by omega) (by rw [<- hel];exact hcc) hfz hbm (fun i p u hp hu w2 hw2=>(hrd i p u hp hu).2 rfl w2 hw2)).mono ?_
    rintro e w' ⟨us',c',fz',ow,h1,h2,h3,h4,hfz',how,h5,rfl,hos,htape,hout2,hsz,hkeep⟩
    rw [<- hel] at h4
    have hlt0:r0 < st.next:=by
     rcases Nat.lt_or_ge r0 st.next with h | h
     ·exact h
     ·rw [(hF r0 har h).1 v] at hb;cases hb
    have hblt:b.1 < w.heap.size:=hR.lt har ho (show (v,n) ∈ o.vers by rw [hvers];simp) hb
    let w1:World:={ w' with heap:=w'.heap.setIfInBounds b.1 (.cells c o.elem fz) }
    have hw1:∀ k,k ≠ b.1->w1.heap[k]?=w'.heap[k]?:=fun k hk=>by
     show (w'.heap.setIfInBounds b.1 _)[k]?=_
     rw [Array.getElem?_setIfInBounds_ne (Ne.symm hk)]
    have hw1s:w1.heap.size=w'.heap.size:=by show (w'.heap.setIfInBounds b.1 _).size=_;simp
    have hex:Ex w w1:=⟨hos,htape,hout2,by rw [hw1s];exact hsz,fun k hk=>by
     by_cases hkb:k=b.1
     ·subst hkb
      show (w'.heap.setIfInBounds b.1 _)[b.1]?=_
      rw [hcc,Array.getElem?_setIfInBounds_self_of_lt (by omega)]
     ·rw [hw1 k hkb];exact hkeep k hk hkb⟩
    have hrb:∀ k,(May W0 A m st w k \/ (w.heap.size<=k/\k < w'.heap.size))->k ≠ b.1:=fun k hk=>by
     rcases hk with hk | hk
     ·exact (hbm k hk).2
     ·omega
    have hall:(us'++c'.toList).length=E.kinds.length:=by simp [h1,h2];omega
    have how1:Owns w w1 E.kinds qs (us'++c'.toList) ow:=⟨fun i bb hi=>by
     obtain ⟨el,sz,may,q,u,g1,g2,g3,⟨g4,g5,n2,cap,cs2,c2,fz2,g6,g7,g8,g9⟩,g10⟩:=how.at' i bb hi
     exact ⟨el,sz,may,q,u,g1,g2,g3,⟨g4,by rw [hw1s];exact g5,n2,cap,cs2,c2,fz2,g6,g7,(hw1 bb (by omega)).trans g8,g9⟩,g10⟩,how.no,how.inj⟩
    obtain ⟨m',S,F',hden⟩:=results hR hF hex (g:=.fn E.k es) (us:=us'++c'.toList) hall (by omega) (fun i q hq=>by simp [Base.ev,SX.ev,hps,hqs,hq]) how1
     (fun i q u hq hu w2 hw2=>h5 i q u hq hu w2 (fun k hk hj=>(hw2 k (by rw [hw1s];exact hk) hj).trans (hw1 k (hrb k hk)))) hout (fun f hf=>hA.2 f (by simp [hf])) hsm (fun r hr=>hA.1 r (Zam (Zam hr)))
    have t1:=Zck (shLen E.outs) hden
    have t2:=Zcl (shLen E.outs) hden
    rw [<- h1,List.take_left' rfl,h1] at t1
    rw [<- h1,List.drop_left' rfl,h1] at t2
    obtain ⟨hpt,hnext⟩:=put_ok hput
    have hg1:(resSt st (.fn E.k es) E.kinds p' os).heap.get r0=some o:=by
     rw [Zew (lg:=⟨0,Zbt st E.kinds os,[]⟩) hsm (fun _ h=>h) r0 (fun h=>by have:=(Zaz _ _ _).1 h;omega)]
     exact ho
    have hb1:m' r0 v=some b:=S.ext.1 _ _ _ hb
    have hcsl:(cs.drop (shLen E.outs)).length=n:=by
     have:=Zab t2
     rw [<- this,Array.length_toList,h2]
     omega
    have hrel1:=S.rel
    have hstep2:Step W0 A (fun k=>k=r0) m' (resSt st (.fn E.k es) E.kinds p' os).heap.get w1 m' s1.heap.get w':=by
     rw [hpt]
     refine Step.put hrel1 har (Map.Le.refl m') (fun _ _ _=>rfl) rfl rfl (fun o2 _ _ _ ho2 _ _=>by rw [hg1] at ho2;cases ho2;exact hro) rfl (fun _ _ _ _ he _ _=>by simp at he) (fun o2 _ _ _ ho2 _ _=>by rw [hg1] at ho2;cases ho2;rfl) (fun _ v1 n1 b1 hv1 hb1'=>by
      simp only [List.mem_singleton,Prod.mk.injEq] at hv1
      obtain ⟨rfl,rfl⟩:=hv1
      rw [hb1] at hb1'
      cases hb1'
      exact Nat.lt_of_lt_of_le hblt hex.size) rfl rfl rfl (by rw [hw1s];exact Nat.le_refl _) ?_ ?_ ?_ ?_
     ·intro k hk hno
      exact (hw1 k (fun e=>hno o v n b hg1 (by rw [hvers];simp) hb1 e.symm)).symm
     ·intro v1 n1 hv1
      simp only [List.mem_singleton,Prod.mk.injEq] at hv1
      obtain ⟨rfl,rfl⟩:=hv1
      refine ⟨b,hb1,BlkC.b ⟨c',fz',h4,hfz',by simp only;omega,by omega,fun i x hi hx=>?_,by simp only [hop,cond_false];omega⟩ hmp⟩
      obtain ⟨u,hu1,hu2⟩:=Za6 t2 hx
      exact ⟨u,hu1,by simpa using hu2⟩
     ·intro v1 n1 rest1 he v2 hlt
      simp only [List.cons.injEq,Prod.mk.injEq] at he
      obtain ⟨⟨rfl,rfl⟩,_⟩:=he
      exact hrel1.top r0 o v n rest' har hg1 hvers v2 hlt
     ·intro v1 n1 b1 hv1 hb1' _
      simp only [List.mem_singleton,Prod.mk.injEq] at hv1
      obtain ⟨rfl,rfl⟩:=hv1
      exact ⟨o,v1,n1,b1,hg1,by rw [hvers];simp,hb1',rfl⟩
    refine ⟨m',⟨(S.trans hstep2).more (fun k hk=>?_),by rw [hnext];exact F'⟩,_,Zdx t1 h1,rfl⟩
    rcases hk with hk | hk
    ·exact Zam hk
    ·exact Zaj ((Zac _ _).2 hk)
  ·cases hr
 ·cases hr
theorem callP_gk {f:FuncId} {E:PtrE} {args:List AV} {st st':St} {r:ARet} {lg:Log} (hr:callP f E args st=some (r,st',lg)):Gk st st' lg:=by
 unfold callP at hr
 split at hr
 ·rename_i r0 v idx sz sub rest
  simp only [Option.bind_eq_some_iff] at hr
  obtain ⟨o,ho,hr⟩:=hr
  split at hr
  ·rename_i v' n rest' hvers
   simp only [Option.bind_eq_some_iff] at hr
   obtain ⟨ls,hls,⟨es,ok,lA⟩,hes,⟨cs,fs,p',os⟩,hout,hr⟩:=hr
   cases hc:(Nat.beq v v' && Nat.beq (idx * sz+sub) 0 && ok && !o.ro && !o.opn && Nat.beq n o.cells.length && Nat.beq n E.cells && Nat.beq o.elem E.elem && Nat.blt (st.next+(Zaf E.kinds 0).length+os.length) 16777215 && Nat.beq E.kinds.length (shLen E.outs+E.cells) && (cs.drop (shLen E.outs)).all AV.one) with
   | false=>simp [hc] at hr
   | true =>
    simp only [hc,cond_true,Option.map_eq_some_iff,Prod.mk.injEq] at hr
    obtain ⟨s1,hput,rfl,rfl,rfl⟩:=hr
    simp only [Bool.and_eq_true,Nat.blt_eq,Nat.beq_eq] at hc
    have hsm:=hc.1.1.2
    have g1:Gk st (resSt st (.fn E.k es) E.kinds p' os) ⟨0,Zbt st E.kinds os,[]⟩:=Zew hsm (fun _ h=>h)
    have g2:=Zcs hput
    intro r hr
    rw [g2 r (fun h=>hr (Zaj h)),g1 r (fun h=>hr (Zam h))]
  ·cases hr
 ·cases hr
theorem Zj6 (tab:FuncId->Option PtrE):OrcOk Try.prog (orcP tab):=by
 refine ⟨?_,?_⟩
 ·intro f args st r st' lg hr W0 A m w vs hA hR hF hvs
  simp only [orcP,Option.bind_eq_some_iff] at hr
  obtain ⟨E,hE,hr⟩:=hr
  exact callP_ok hr W0 A m w vs hA hR hF hvs
 ·intro f args st r st' lg hr
  simp only [orcP,Option.bind_eq_some_iff] at hr
  obtain ⟨E,hE,hr⟩:=hr
  exact callP_gk hr
end Go.Proofs.Ytcaclmdkhffegaa.eng
end

section
/- The engine: a contract out of pieces, of a function that turns what its first argument points to. -/
namespace Go.Proofs.Ytcaclmdkhffegaa.eng
open Go Go.RowKit
variable {W0 : Base}
set_option linter.unusedVariables false
set_option linter.unusedSimpArgs false

def PtrE.all (E:PtrE):FnE:={ k:=E.k,ins:=E.ins++List.replicate E.cells none,leaks:=List.replicate (shLen E.ins+E.cells) true,outs:=[],kinds:=[] }
end Go.Proofs.Ytcaclmdkhffegaa.eng
end

section
/- The engine: contracts out of pieces, of functions that Zeq rows of their own. -/
namespace Go.Proofs.Ytcaclmdkhffegaa.eng
open Go Go.RowKit
variable {W0 : Base}
set_option linter.unusedVariables false
set_option linter.unusedSimpArgs false


end Go.Proofs.Ytcaclmdkhffegaa.eng
end
