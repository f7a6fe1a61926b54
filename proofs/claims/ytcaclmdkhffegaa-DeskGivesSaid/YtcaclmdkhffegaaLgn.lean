/- Texts joined. -/
import Derived.Test.YtcaclmdkhffegaaLgr
section
/- lease.Grant, by hand: with. -/
namespace Go.Proofs.Ytcaclmdkhffegaa.lgw
open Go Go.RowKit eng SX Fact fil lem lea lho lhp lhd leb ins dlf lgr
set_option linter.unusedVariables false
set_option linter.unusedSimpArgs false
set_option maxRecDepth 100000

def Zei (y x:LeM):LeM:=(y.1,y.2.1,max y.2.2.1 x.2.2.1,max y.2.2.2 x.2.2.2)
def Zc8 (xs:List LeM) (x:LeM):Nat:=xs.findIdx fun y=>decide (0<=ordL y x)
def Zby (xs:List LeM) (x:LeM):List LeM:=match xs[Zc8 xs x]? with
 | some y=>if ordL y x=0 then xs.set (Zc8 xs x) (Zei y x) else xs.take (Zc8 xs x)++x :: xs.drop (Zc8 xs x)
 | none=>xs++[x]
theorem place_eq {xs:List LeM} {x:LeM} {i:Nat} {t:Bool} (h:lgr.Place xs x i t):i=Zc8 xs x:=by
 obtain ⟨h1,h2,h3,_⟩:=h
 unfold Zc8
 rcases Nat.lt_or_ge i xs.length with hi | hi
 ·symm
  rw [List.findIdx_eq hi]
  exact ⟨by simpa using h3 i hi (Nat.le_refl _),fun j hj=>by simpa using h2 j (by omega) hj⟩
 ·have:i=xs.length:=by omega
  subst this
  symm
  rw [List.findIdx_eq_length]
  intro y hy
  obtain ⟨j,hj,rfl⟩:=List.getElem_of_mem hy
  simpa using h2 j hj hj
theorem Zfd {xs:List LeM} {x:LeM} {i:Nat} (h:lgr.Place xs x i true):∃ (hi:i < xs.length),Zby xs x=xs.set i (Zei xs[i] x):=by
 obtain ⟨hi,h0⟩:=h.2.2.2.1 rfl
 have he:=place_eq h
 refine ⟨hi,?_⟩
 unfold Zby
 rw [<- he,List.getElem?_eq_getElem hi]
 simp only [h0,if_true]
theorem Zhs {xs:List LeM} {x:LeM} {i:Nat} (h:lgr.Place xs x i false):Zby xs x=xs.take i++[x]++xs.drop i:=by
 have he:=place_eq h
 unfold Zby
 rw [<- he]
 rcases Nat.lt_or_ge i xs.length with hi | hi
 ·rw [List.getElem?_eq_getElem hi]
  have:¬ ordL xs[i] x=0:=fun h0=>by have:=h.2.2.2.2 ⟨hi,h0⟩;cases this
  simp [this]
 ·have:i=xs.length:=by have:=h.1;omega
  subst this
  simp
theorem set2 (dk:List LeM) (i:Nat) (h:i < dk.length) (m u:Int):((encL.all dk).set (i * 4+2) (.int .i64 m)).set (i * 4+3) (.int .i64 u)=encL.all (dk.set i (dk[i].1,dk[i].2.1,m,u)):=by
 rw [<- set4 dk i _ h]
 have h0:(encL.all dk)[i * 4]?=some (.int .i64 dk[i].1):=by
  have:=encL.all_get dk i 0 dk[i] (List.getElem?_eq_getElem h) (by decide)
  simpa [encL] using this
 have h1:(encL.all dk)[i * 4+1]?=some (.int .i64 dk[i].2.1):=by
  have:=encL.all_get dk i 1 dk[i] (List.getElem?_eq_getElem h) (by decide)
  simpa [encL] using this
 have e0:(encL.all dk).set (i * 4) (.int .i64 dk[i].1)=encL.all dk:=by
  obtain ⟨hl,hv⟩:=List.getElem?_eq_some_iff.1 h0
  rw [<- hv];exact List.set_getElem_self hl
 have e1:(encL.all dk).set (i * 4+1) (.int .i64 dk[i].2.1)=encL.all dk:=by
  obtain ⟨hl,hv⟩:=List.getElem?_eq_some_iff.1 h1
  rw [<- hv];exact List.set_getElem_self hl
 simp only [e0,e1]
theorem stored2 {W:World} {base b n cap:Nat} {e:TypeId} {dk:List LeM} (h:W.ownsRow base e 4 (.slice (some ⟨b,0,none⟩) n cap) n (encL.all dk)) (i:Nat) (hi:i < dk.length) (m u:Int) :
  ((W.setCell ⟨b,i * 4+2,none⟩ (.int .i64 m)).setCell ⟨b,i * 4+3,none⟩ (.int .i64 u)).ownsRow base e 4 (.slice (some ⟨b,0,none⟩) n cap) n (encL.all (dk.set i (dk[i].1,dk[i].2.1,m,u))) ∧
  W.grownBy ((W.setCell ⟨b,i * 4+2,none⟩ (.int .i64 m)).setCell ⟨b,i * 4+3,none⟩ (.int .i64 u)) (some b):=by
 obtain ⟨h1,g1⟩:=h.stored (i * 4+2) (.int .i64 m)
 obtain ⟨h2,g2⟩:=h1.stored (i * 4+3) (.int .i64 u)
 rw [set2 dk i hi] at h2
 exact ⟨h2,g1.trans g2⟩
def Gives (w:World) (base b:Nat) (ys:List LeM) (e:Ending) (w':World):Prop:=∃ v,e=.returned v/\w'.ownsRow base 57 4 v ys.length (encL.all ys)/\w.grownBy w' (some b)/\∀ k,v.ownBlock=some k->k=b \/ w.heap.size<=k
set_option maxHeartbeats 4000000 in
theorem with_any (x:LeM) (base b n cap:Nat) (xs:List LeM) (w:World) (hown:w.ownsRow base 57 4 (.slice (some ⟨b,0,none⟩) n cap) n (encL.all xs)) (hbase:base<=w.heap.size) (hm:MayL xs) (hx:okL x) (hn6:n < 1000000) :
  Calls Try.prog 74 #[.slice (some ⟨b,0,none⟩) n cap,lv x] w (Gives w base b (Zby xs x)):=by
 obtain ⟨hrow,hn⟩:=RowE.of_own (E:=encL) hown
 have hbw:b < w.heap.size:=(hown.lt b rfl).2
 have g0:=Ex.mk_alloc w (.cells #[.int .i64 x.1,.int .i64 x.2.1,.int .i64 x.2.2.1,.int .i64 x.2.2.2] 57)
 have HM:=Lib.hid (fun (W:World) (g:Ex w W)=>mustBe_ok (.slice (some ⟨b,0,none⟩) n cap) xs W (hrow.ex g) hm)
 have HL:=Lib.hid (fun (W:World)=>mustL_ok x W hx)
 have HB:=Lib.hid (fun (W:World) (g:Ex w W)=>search_any (.slice (some ⟨b,0,none⟩) n cap) xs x W (hrow.ex g) hm)
 have HO:=Lib.hid hown
 have HN:=Lib.hid hn
 have HX:=Lib.hid (rfl:x=x)
 have mixed:Try.prog.follows .mixedOrders=true:=by kernel_rfl
 clear hown hrow hm hx hn
 obtain ⟨x0,x1,x2,x3⟩:=x
 simp only [lv] at *
 go_enter Try.func74,Try.ntmps74
 go_wp2_with (first
  | (go_at_call 89;refine (HM.out _ g0).mono ?_;rintro e w1 ⟨rfl,g1⟩;obtain ⟨k0,k1,k2,k3⟩:=box4 g1)
  | (go_at_call 90;refine (HL.out _).mono ?_;rintro e w2 ⟨rfl,g2⟩;obtain ⟨l0,l1,l2,l3⟩:=box4 (Ex.trans g1 g2)))
 have g12:=Ex.trans g1 g2
 refine (HB.out _ (Ex.trans g0 g12)).mono ?_
 rintro e w3 ⟨i,there,rfl,g3,hP⟩
 have g123:=Ex.trans g12 g3
 obtain ⟨m0,m1,m2,m3⟩:=box4 g123
 have gw:=Ex.trans g0 g123
 have GW:=Lib.hid gw
 have hown3:=Ze3 HO.out gw
 have hsz3:=gw.size
 have HP:=Lib.hid hP
 have hin:=hP.1
 have hn:=HN.out
 rw [hn] at hin
 clear hP k0 k1 k2 k3 l0 l1 l2 l3 g1 g2 g12 g3 g123 gw g0 hn
 cases there with
 | true =>
  obtain ⟨hi,hg⟩:=Zfd HP.out
  obtain ⟨hrow,_⟩:=RowE.of_own (E:=encL) hown3
  have hy:=List.getElem?_eq_getElem hi
  have c2:=hrow.at (j:=2) hy rfl
  have c3:=hrow.at (j:=3) hy rfl
  simp only [encL,Nat.add_zero,Nat.zero_add] at c2 c3
  have f2:=hown3.frozenAt (i * 4+2)
  have f3:=hown3.frozenAt (i * 4+3)
  have HW:=Lib.hid (stored2 hown3 i hi (max xs[i].2.2.1 x2) (max xs[i].2.2.2 x3))
  have hin':i < n:=by have:=HN.out;omega
  have i0':(0:Int)<=(i:Int):=by omega
  have i1':(i:Int) < (n:Int):=by omega
  obtain ⟨y,hyy⟩:∃ y,xs[i]=y:=⟨_,rfl⟩
  have HY:=Lib.hid hyy
  rw [hyy] at c2 c3 HW hg
  have HG:=Lib.hid hg
  have hne:b ≠ w.heap.size:=by omega
  clear hyy hy hrow hown3 hg
  obtain ⟨y0,y1,y2,y3⟩:=y
  simp only at c2 c3 HW
  go_wp2_with fail
  go_region
  go_wp2_with fail
  go_ret
  obtain ⟨q1,q2⟩:=HW.out
  rw [HG.out]
  refine ⟨_,rfl,?_,?_,fun k hk=>by cases hk;exact .inl rfl⟩
  ·rw [List.length_set,HN.out]
   exact q1.drew
  ·exact (Zbt GW.out (some b)).trans (q2.trans ⟨rfl,rfl,rfl,Nat.le_refl _,fun _ _ _=>rfl⟩)
 | false =>
  have hg:=Zhs HP.out
  have gA:=Ex.mk_alloc w3 (.cells #[.int .i64 x0,.int .i64 x1,.int .i64 x2,.int .i64 x3] 57)
  have hown4:=Ze3 hown3 gA
  have hv:RowE encL (w3.alloc (.cells #[.int .i64 x0,.int .i64 x1,.int .i64 x2,.int .i64 x3] 57)) (.slice (some ⟨w3.heap.size,0,none⟩) 1 1) [(x0,x1,x2,x3)]:=RowE.lit encL w3 [(x0,x1,x2,x3)] _ 1 rfl (by unfold maxLen;omega) _ rfl
  have hI:=insert_any encL rfl _ base b n cap i (encL.all xs) hown4 (by rw [World.size_alloc];omega) (encL.all_one' xs) w3.heap.size 0 1 1 [(x0,x1,x2,x3)] rfl (by omega) (by omega) hv (by omega) hin
  have HI:=Lib.hid hI
  have GA:=Lib.hid gA
  have HG:=Lib.hid hg
  clear hI gA hg hv hown4 hown3
  go_wp2_with (go_at_call 93;refine HI.out.mono ?_;rintro e w5 ⟨v,rfl,h5,g5,o5⟩;have H5:=Lib.hid h5;have G5:=Lib.hid g5;have O5:=Lib.hid o5;clear h5 g5 o5)
  go_ret
  have hsplit:encL.all xs=encL.all (xs.take i)++encL.all (xs.drop i):=by rw [<- encL.all_append,List.take_append_drop]
  have hlt:(encL.all (xs.take i)).length=i * 4:=by rw [encL.all_length,List.length_take,HN.out,Nat.min_eq_left hin];rfl
  have hT:(encL.all xs).take (i * 4)=encL.all (xs.take i):=by rw [hsplit,<- hlt,List.take_left' rfl]
  have hD:(encL.all xs).drop (i * 4)=encL.all (xs.drop i):=by rw [hsplit,<- hlt,List.drop_left' rfl]
  refine ⟨v,rfl,?_,(Zbt (Ex.trans GW.out GA.out) (some b)).trans G5.out,fun k hk=>by
   rcases O5.out with h | h
   ·rw [h] at hk;cases hk;exact .inl rfl
   ·rw [h,World.size_alloc] at hk;cases hk;right;omega⟩
  rw [HG.out,encL.all_append,encL.all_append,<- hT,<- hD]
  have hl:(xs.take i++[(x0,x1,x2,x3)]++xs.drop i).length=n+1:=by
   simp only [List.length_append,List.length_take,List.length_drop,List.length_cons,List.length_nil,HN.out]
   omega
  rw [hl]
  exact H5.out
end Go.Proofs.Ytcaclmdkhffegaa.lgw
end
section
/- lease.Grant, by hand. -/
namespace Go.Proofs.Ytcaclmdkhffegaa.lgn
open Go Go.RowKit eng SX Fact fil lem lea lho lhp lhd leb ins dlf lgr lgw
set_option linter.unusedVariables false
set_option linter.unusedSimpArgs false
set_option maxRecDepth 100000
variable {α : Type}
set_option maxHeartbeats 4000000 in
theorem insert_nil (E:Enc α) (hE:E.sz=4) (w:World) (base:Nat) (hbase:base<=w.heap.size) (vb voff m vc:Nat) (news:List α) (hm:news.length=m) (hm0:0 < m) (hnm:m<=1000000) (hr:RowE E w (.slice (some ⟨vb,voff,none⟩) m vc) news) :
  Calls Try.prog 93 #[.slice none 0 0,.int .i64 0,.slice (some ⟨vb,voff,none⟩) m vc] w fun e w'=>∃ v,e=.returned v/\w'.ownsRow base 57 4 v m (E.all news)/\w.grownBy w' none:=by
 obtain ⟨i0,hi,hz0,hz1,hz2⟩:=info_parts info_el
 obtain ⟨v',w',hrun,h1,h2,h3⟩:=Zcn (P:=Try.prog) w E base 27 27 57 i0 _ 4 32 Try.underlying27 hi hz0 hz1 hz2 rfl hE (.slice none 0 0) 0 [] (World.ownsRow_nil _ _ _ _) _ news hr (by unfold maxLen;omega) (by omega) hbase
 rw [hm,Nat.zero_add,List.nil_append] at h1
 have H1:=Lib.hid h1
 have H2:=Lib.hid h2
 have HR:=Lib.hid hrun
 have hz1':¬ ((m:Int)=0):=by omega
 clear h1 h2 h3 hrun hr hbase
 go_enter Try.func93,Try.ntmps93
 go_wp2_with (at_builtin;refine Lib.wpList_append_run _ rfl _ _ _ _ rfl _ _ rfl rfl _ _ HR.out ?_)
 all_goals (go_ret;exact ⟨_,rfl,H1.out,H2.out⟩)
theorem place_nil {x:LeM} {i:Nat} {t:Bool} (h:lgr.Place [] x i t):i=0/\t=false:=by
 have h1:=h.1
 simp at h1
 refine ⟨h1,?_⟩
 cases t with
 | false=>rfl
 | true=>obtain ⟨hi,_⟩:=h.2.2.2.1 rfl;simp at hi
set_option maxHeartbeats 4000000 in
theorem with_nil (x:LeM) (base:Nat) (w:World) (hbase:base<=w.heap.size) (hx:okL x) :
  Calls Try.prog 74 #[.slice none 0 0,lv x] w fun e w'=>∃ v,e=.returned v/\w'.ownsRow base 57 4 v 1 (encL.all [x])/\Ex w w':=by
 have hrow:RowE encL w (.slice none 0 0) []:=RowE.nil encL w
 have hm:MayL []:=⟨by simp,by simp,fun i h=>by simp at h⟩
 have g0:=Ex.mk_alloc w (.cells #[.int .i64 x.1,.int .i64 x.2.1,.int .i64 x.2.2.1,.int .i64 x.2.2.2] 57)
 have HM:=Lib.hid (fun (W:World) (g:Ex w W)=>mustBe_ok (.slice none 0 0) [] W (hrow.ex g) hm)
 have HL:=Lib.hid (fun (W:World)=>mustL_ok x W hx)
 have HB:=Lib.hid (fun (W:World) (g:Ex w W)=>search_any (.slice none 0 0) [] x W (hrow.ex g) hm)
 have mixed:Try.prog.follows .mixedOrders=true:=by kernel_rfl
 clear hrow hm hx
 obtain ⟨x0,x1,x2,x3⟩:=x
 simp only [lv] at *
 go_enter Try.func74,Try.ntmps74
 go_wp2_with (first
  | (go_at_call 89;refine (HM.out _ g0).mono ?_;rintro e w1 ⟨rfl,g1⟩;obtain ⟨k0,k1,k2,k3⟩:=box4 g1)
  | (go_at_call 90;refine (HL.out _).mono ?_;rintro e w2 ⟨rfl,g2⟩;obtain ⟨l0,l1,l2,l3⟩:=box4 (Ex.trans g1 g2)))
 have g12:=Ex.trans g1 g2
 refine (HB.out _ (Ex.trans g0 g12)).mono ?_
 rintro e w3 ⟨i,there,rfl,g3,hP⟩
 obtain ⟨rfl,rfl⟩:=place_nil hP
 have g123:=Ex.trans g12 g3
 obtain ⟨m0,m1,m2,m3⟩:=box4 g123
 have gw:=Ex.trans g0 g123
 have GW:=Lib.hid gw
 have hsz3:=gw.size
 clear hP k0 k1 k2 k3 l0 l1 l2 l3 g1 g2 g12 g3 g123 gw g0
 have gA:=Ex.mk_alloc w3 (.cells #[.int .i64 x0,.int .i64 x1,.int .i64 x2,.int .i64 x3] 57)
 have hv:RowE encL (w3.alloc (.cells #[.int .i64 x0,.int .i64 x1,.int .i64 x2,.int .i64 x3] 57)) (.slice (some ⟨w3.heap.size,0,none⟩) 1 1) [(x0,x1,x2,x3)]:=RowE.lit encL w3 [(x0,x1,x2,x3)] _ 1 rfl (by unfold maxLen;omega) _ rfl
 have hI:=insert_nil encL rfl _ base (by rw [World.size_alloc];omega) w3.heap.size 0 1 1 [(x0,x1,x2,x3)] rfl (by omega) (by omega) hv
 have HI:=Lib.hid hI
 have GA:=Lib.hid gA
 clear hI gA hv
 simp only [Int.natCast_zero,Int.cast_ofNat_Int] at *
 go_wp2_with (go_at_call 93;refine HI.out.mono ?_;rintro e w5 ⟨v,rfl,h5,g5⟩;have H5:=Lib.hid h5;have G5:=Lib.hid g5;clear h5 g5)
 go_ret
 exact ⟨v,rfl,H5.out,Below.grown (Ex.trans GW.out GA.out) G5.out (Ex.trans GW.out GA.out).size (fun k hk=>by cases hk)⟩

theorem own_set {W:World} {base s:Nat} {e:TypeId} {v u:Value} {n:Nat} {xs:List Value} (h:W.ownsRow base e 4 v n xs) (hne:∀ k,v.ownBlock=some k->k ≠ s):(W.setCell ⟨s,0,none⟩ u).ownsRow base e 4 v n xs:=h.kept (row:=some s) ⟨rfl,rfl,rfl,by simp,fun k _ hk=>heap_setCell_other W ⟨s,0,none⟩ k u (fun e=>hk (by simp [e]))⟩ (by
 cases hb:v.ownBlock with
 | none=>exact .inl rfl
 | some k=>right;intro h2;cases h2;exact hne _ hb rfl)
theorem Zjo {W:World} {base:Nat} {e:TypeId} {v:Value} {n:Nat} {xs:List Value} (h:W.ownsRow base e 4 v n xs):∃ ad m c,v=.slice ad m c:=by
 rcases h.2 with ⟨rfl,_⟩ | ⟨_,_,_,rfl,_⟩
 ·exact ⟨_,_,_,rfl⟩
 ·exact ⟨_,_,_,rfl⟩
def Put (W:World) (base s:Nat) (ys:List LeM) (W':World):Prop:=∃ v,W'.cell? ⟨s,0,none⟩=some v/\W'.ownsRow base 57 4 v ys.length (encL.all ys)/\Below base W W'
set_option maxHeartbeats 2000000 in
theorem one_some (x:LeM) (base s q b n cap:Nat) (xs:List LeM) (W:World) (hown:W.ownsRow base 57 4 (.slice (some ⟨b,0,none⟩) n cap) n (encL.all xs)) (hbase:base<=W.heap.size) (hm:MayL xs) (hx:okL x) (hn6:n < 1000000)
  (hs:W.cell? ⟨s,0,none⟩=some (.slice (some ⟨b,0,none⟩) n cap)) (hf:W.frozen? ⟨s,0,none⟩=false) (hsb:s ≠ b) (hbs:base<=s)
  (h0:W.cell? ⟨q,0,none⟩=some (.int .i64 x.1)) (h1:W.cell? ⟨q,1,none⟩=some (.int .i64 x.2.1)) (h2:W.cell? ⟨q,2,none⟩=some (.int .i64 x.2.2.1)) (h3:W.cell? ⟨q,3,none⟩=some (.int .i64 x.2.2.2)) :
  Calls Try.prog 73 #[.pointer (some ⟨s,0,none⟩),.pointer (some ⟨q,0,none⟩)] W fun e W'=>e=.returned (.tuple #[])/\Put W base s (Zby xs x) W':=by
 have HW:=Lib.hid (with_any x base b n cap xs W hown hbase hm hx hn6)
 have hsw:s < W.heap.size:=World.block_lt_of_cell? _ _ hs
 have hb:=hown.lt b rfl
 clear hown hm hx
 generalize Zby xs x=ys at *
 obtain ⟨x0,x1,x2,x3⟩:=x
 simp only [lv] at *
 go_enter Try.func73,Try.ntmps73
 go_wp2_with (go_at_call 74;refine HW.out.mono ?_;rintro e W1 ⟨v,rfl,ho,hg,hk⟩;obtain ⟨ad,m,cc,rfl⟩:=Zjo ho;have c1:=hg.cell hs (by simp;omega);have f1:=(hg.frozen_far ⟨s,0,none⟩ hsw (by simp;omega)).trans hf;have HO:=Lib.hid ho;have HG:=Lib.hid hg;have HK:=Lib.hid hk;clear ho hg hk)
 have hfin:Put W base s ys (W1.setCell ⟨s,0,none⟩ (.slice ad m cc)):=by
  refine ⟨_,World.cell?_setCell_same W1 _ _ c1,own_set HO.out (fun k hk=>by rcases HK.out k hk with h | h <;> omega),?_⟩
  exact Below.setCell (Below.grown (Below.refl base W) HG.out hbase (fun k hk=>by cases hk;omega)) (by show base<=s;exact hbs) _
 simp [bodyPost,results,Try.results73,hfin]

set_option maxHeartbeats 2000000 in
theorem one_nil (x:LeM) (base s q:Nat) (W:World) (hbase:base<=W.heap.size) (hx:okL x)
  (hs:W.cell? ⟨s,0,none⟩=some (.slice none 0 0)) (hf:W.frozen? ⟨s,0,none⟩=false) (hbs:base<=s)
  (h0:W.cell? ⟨q,0,none⟩=some (.int .i64 x.1)) (h1:W.cell? ⟨q,1,none⟩=some (.int .i64 x.2.1)) (h2:W.cell? ⟨q,2,none⟩=some (.int .i64 x.2.2.1)) (h3:W.cell? ⟨q,3,none⟩=some (.int .i64 x.2.2.2)) :
  Calls Try.prog 73 #[.pointer (some ⟨s,0,none⟩),.pointer (some ⟨q,0,none⟩)] W fun e W'=>e=.returned (.tuple #[])/\Put W base s [x] W':=by
 have HW:=Lib.hid (with_nil x W.heap.size W (Nat.le_refl _) hx)
 have hsw:s < W.heap.size:=World.block_lt_of_cell? _ _ hs
 clear hx
 generalize hys:[x]=ys at *
 have hyl:ys.length=1:=by rw [<- hys];rfl
 clear hys
 obtain ⟨x0,x1,x2,x3⟩:=x
 simp only [lv] at *
 go_enter Try.func73,Try.ntmps73
 go_wp2_with (go_at_call 74;refine HW.out.mono ?_;rintro e W1 ⟨v,rfl,ho,hg⟩;obtain ⟨ad,m,cc,rfl⟩:=Zjo ho;have c1:=hg.on hs;have f1:=hg.fz hsw hf;have HO:=Lib.hid ho;have HG:=Lib.hid hg;clear ho hg)
 have hfin:Put W base s ys (W1.setCell ⟨s,0,none⟩ (.slice ad m cc)):=by
  refine ⟨_,World.cell?_setCell_same W1 _ _ c1,?_,?_⟩
  ·rw [hyl]
   exact own_set (Zfb HO.out hbase) (fun k hk=>by have:=(HO.out.lt k hk).1;omega)
  ·exact Below.setCell (Below.mono HG.out hbase) (by show base<=s;exact hbs) _
 simp [bodyPost,results,Try.results73,hfin]
theorem callGrant (cap:Array Value) (w:World):(callFunc 73 cap).run Try.prog w=.ok (.enter 73 cap) w:=by
 simp [go_sem]
theorem grant_nil (x:LeM):Zby [] x=[x]:=by simp [Zby]
set_option maxHeartbeats 4000000 in
theorem grant_any (x:LeM) (l:Value) (xs:List LeM) (w:World) (hr:RowE encL w l xs) (hm:MayL xs) (hx:okL x) (hn6:xs.length < 1000000) :
  Calls Try.prog 55 #[l,lv x] w (OwnsL w (Zby xs x)):=by
 obtain ⟨a,cap,rfl,h1,h2⟩:=hr.len
 have g0:=Ex.mk_alloc w (.cells #[.int .i64 x.1,.int .i64 x.2.1,.int .i64 x.2.2.1,.int .i64 x.2.2.2] 57)
 have g1:=Ex.mk_alloc (w.alloc (.cells #[.int .i64 x.1,.int .i64 x.2.1,.int .i64 x.2.2.1,.int .i64 x.2.2.2] 57)) (.cells #[.slice a xs.length cap] 27)
 have HC:=Lib.hid (catL.concat_at (w.heap.size+1) (.slice a xs.length cap) xs ((w.alloc (.cells #[.int .i64 x.1,.int .i64 x.2.1,.int .i64 x.2.2.1,.int .i64 x.2.2.2] 57)).alloc (.cells #[.slice a xs.length cap] 27)) (by rw [World.cell?_alloc_at _ _ _ _ (by rw [World.size_alloc])];rfl) (hr.ex (Ex.trans g0 g1)) (by omega))
 have G0:=Lib.hid g0
 have G1:=Lib.hid g1
 have HM:=Lib.hid hm
 have HX:=Lib.hid hx
 clear hr hm hx g0 g1
 obtain ⟨x0,x1,x2,x3⟩:=x
 simp only [lv] at *
 go_enter Try.func55,Try.ntmps55
 go_wp2_with (go_at_call 64;refine HC.out.mono ?_;rintro e w1 ⟨v,rfl,hown,g2⟩;obtain ⟨ad,m,cc,rfl⟩:=Zjo hown;have HW:=Lib.hid hown;have G2:=Lib.hid g2;clear hown g2)
 have hsz1:=G0.out.size
 have hsz2:=G1.out.size
 have hsz3:=G2.out.size
 have g3:=Ex.mk_alloc w1 (.cells #[.slice ad m cc] 27)
 have gq:=Ex.trans G1.out (Ex.trans G2.out g3)
 have gw:=Ex.trans G0.out gq
 obtain ⟨q0,q1,q2,q3⟩:=box4 gq
 have hs:(w1.alloc (.cells #[.slice ad m cc] 27)).cell? ⟨w1.heap.size,0,none⟩=some (.slice ad m cc):=by rw [World.cell?_alloc_at _ _ _ _ rfl];rfl
 have hf:(w1.alloc (.cells #[.slice ad m cc] 27)).frozen? ⟨w1.heap.size,0,none⟩=false:=Zih (Ex.refl _) 0
 have hin:Calls Try.prog 73 #[.pointer (some ⟨w1.heap.size,0,none⟩),.pointer (some ⟨w.heap.size,0,none⟩)] (w1.alloc (.cells #[.slice ad m cc] 27)) fun e W'=>e=.returned (.tuple #[])/\Put (w1.alloc (.cells #[.slice ad m cc] 27)) w.heap.size w1.heap.size (Zby xs (x0,x1,x2,x3)) W':=by
  have ho:=Ze3 HW.out g3
  simp only [World.size_alloc] at hsz1 hsz2 hsz3 ho
  rcases ho.2 with ⟨he,h0⟩ | ⟨b,cap',cur,he,hb,hq,hh⟩
  ·cases he
   have hx0:xs=[]:=List.eq_nil_of_length_eq_zero h0
   rw [hx0,grant_nil]
   exact one_nil (x0,x1,x2,x3) w.heap.size w1.heap.size w.heap.size _ (by rw [World.size_alloc];omega) HX.out hs hf (by omega) q0 q1 q2 q3
  ·cases he
   have hbl:=(HW.out.lt b rfl).2
   exact one_some (x0,x1,x2,x3) w.heap.size w1.heap.size w.heap.size b xs.length cc xs _ (Zfb ho (by omega)) (by rw [World.size_alloc];omega) HM.out HX.out hn6 hs hf (by omega) (by omega) q0 q1 q2 q3
 have HI:=Lib.hid (ends_yes 73 _ _ (fun W'=>Put (w1.alloc (.cells #[.slice ad m cc] 27)) w.heap.size w1.heap.size (Zby xs (x0,x1,x2,x3)) W') (callGrant _) hin)
 have GW:=Lib.hid gw
 clear hin hs hf q0 q1 q2 q3 gq gw g3
 refine HI.out.mono ?_
 rintro e W5 ⟨rfl,v',c5,h5,b5⟩
 obtain ⟨ad',m',cc',rfl⟩:=Zjo h5
 have H5:=Lib.hid h5
 have B5:=Lib.hid b5
 clear h5 b5
 go_wp2_with fail
 go_ret
 exact ⟨_,rfl,H5.out,Below.trans GW.out B5.out⟩
end Go.Proofs.Ytcaclmdkhffegaa.lgn
end
