/- Texts joined. -/
import Derived.Test.YtpnegheknjeljaaGreatDskB
section
/- Contracts of package disk, twelfth part: Write, Flush, Crash. -/
namespace Go.Proofs.YtpnegheknjeljaaGreat.dsk
set_option maxRecDepth 100000
open Go.RowKit

theorem write1_no (q p s:Nat) (al aw:Option Addr) (cl cw:Nat) (d:D) (i:Int) (b:ByteArray) (w:World) (hb:BoxD w q al d.last.length cl aw d.wait.length cw d.arm d.down) (hp:w.cell? ⟨p,0,none⟩=some (.int .i64 i)) (hs:w.cell? ⟨s,0,none⟩=some (.string b))
  (hn:¬ (hasB d i=true/\b.size=32)) :
  Calls Tryz.prog 88 #[.pointer (some ⟨q,0,none⟩),.pointer (some ⟨p,0,none⟩),.pointer (some ⟨s,0,none⟩)] w (BoomE w):=by
 have lp:p < w.heap.size:=World.block_lt_of_cell? w _ hp
 have ls:s < w.heap.size:=World.block_lt_of_cell? w _ hs
 have lq:q < w.heap.size:=hb.lt
 have G0:=Ex.mk_alloc w (.cells #[.slice none 0 0,.slice none 0 0,.int .i64 0,.bool false] 29)
 have hp0:=G0.on hp
 have hs0:=G0.on hs
 have HB:=Lib.hid (hb.ex G0)
 by_cases hdn:d.down=true
 ·rw [hdn] at HB
  obtain ⟨c0,c1,c2,c3⟩:=HB.out
  have HG:=Lib.hid G0
  clear hb hdn hn hp hs G0 hp0 hs0
  go_enter Tryz.func88,Tryz.ntmps88
  go_wp2_with fail
  refine (Zkx _ _ _ _ _ _ _ _).mono ?_
  rintro e w1 ⟨u,v,rfl,g1⟩
  exact ⟨rfl,_,_,rfl,Ex.trans HG.out g1⟩
 ·have hdn:d.down=false:=by simpa using hdn
  rw [hdn] at HB
  obtain ⟨c0,c1,c2,c3⟩:=HB.out
  have HG:=Lib.hid G0
  by_cases hin:inN d.last.length i=true
  ·have hb32:¬ b.size=32:=fun e=>hn ⟨by obtain ⟨h1,h2⟩:=inN_yes hin;simp [hasB,hdn,h1,h2],e⟩
   have HH:=Lib.hid (fun w=>Zim al aw d.last.length cl d.wait.length cw d.arm false i w hin)
   have HF:=Lib.hid (fun w=>mustFill_no b w hb32)
   clear hb hdn hn hp hs G0 hin hb32
   go_enter Tryz.func88,Tryz.ntmps88
   go_wp2_with fail
   refine (Zdo _ _ _ _ _ _ _ _).mono ?_
   rintro e w1 ⟨rfl,g1⟩
   obtain ⟨c0,c1,c2,c3⟩:=HB.out.ex g1
   have hp1:=g1.on hp0
   have hs1:=g1.on hs0
   clear hp0 hs0
   go_wp2_with fail
   refine (HH.out _).mono ?_
   rintro e w2 ⟨rfl,g2⟩
   have hs2:=g2.on hs1
   clear hs1
   go_wp2_with fail
   refine (HF.out _).mono ?_
   rintro e w3 ⟨u,v,rfl,g3⟩
   exact ⟨rfl,_,_,rfl,Ex.trans HG.out (Ex.trans g1 (Ex.trans g2 g3))⟩
  ·have hin:inN d.last.length i=false:=by simpa using hin
   have HH:=Lib.hid (fun w=>mustHave_no al aw d.last.length cl d.wait.length cw d.arm false i w hin)
   clear hb hdn hn hp hs G0 hin
   go_enter Tryz.func88,Tryz.ntmps88
   go_wp2_with fail
   refine (Zdo _ _ _ _ _ _ _ _).mono ?_
   rintro e w1 ⟨rfl,g1⟩
   obtain ⟨c0,c1,c2,c3⟩:=HB.out.ex g1
   have hp1:=g1.on hp0
   have hs1:=g1.on hs0
   clear hp0 hs0
   go_wp2_with fail
   refine (HH.out _).mono ?_
   rintro e w2 ⟨u,v,rfl,g2⟩
   exact ⟨rfl,_,_,rfl,Ex.trans HG.out (Ex.trans g1 g2)⟩

set_option maxRecDepth 100000 in
set_option maxHeartbeats 1000000 in
theorem write_any (v:Value) (d:D) (i:Int) (b:ByteArray) (w:World) (hd:IsD w v d) (ok:d.ok):Calls Tryz.prog 55 #[v,.int .i64 i,.string b] w (Zk9 w (Zel d i b).1 (Zel d i b).2):=by
 have OK:=Lib.hid ok
 have HD:=Lib.hid hd
 obtain ⟨al,cl,aw,cw,rfl,hl,hw⟩:=hd
 clear hl hw ok
 go_enter Tryz.func55,Tryz.ntmps55
 go_wp2_with fail
 generalize hW:(((w.alloc _).alloc _).alloc _).alloc _=W1
 have HX:∀ wr,Ex W1 wr->BoxD wr w.heap.size al d.last.length cl aw d.wait.length cw d.arm d.down/\wr.cell? ⟨w.heap.size+1,0,none⟩=some (.int .i64 i)/\wr.cell? ⟨w.heap.size+1+1,0,none⟩=some (.string b):=by
  subst hW
  intro wr g
  obtain ⟨c,_,c2,_,c3,_⟩:=box3 (Ex.trans (Ex.mk_alloc _ _) g)
  exact ⟨⟨c 0 _ rfl,c 1 _ rfl,c 2 _ rfl,c 3 _ rfl⟩,c2 0 _ rfl,c3 0 _ rfl⟩
 have hg:Ex w W1:=by subst hW;exact (((Ex.mk_alloc _ _).al _).al _).al _
 have hr:∀ wr,Ex W1 wr->(wr.cell? ⟨w.heap.size+1+1+1,0,none⟩=some (.slice none 0 0)/\wr.cell? ⟨w.heap.size+1+1+1,1,none⟩=some (.slice none 0 0)/\wr.cell? ⟨w.heap.size+1+1+1,2,none⟩=some (.int .i64 0)/\wr.cell? ⟨w.heap.size+1+1+1,3,none⟩=some (.bool false))/\(∀ i,wr.frozen? ⟨w.heap.size+1+1+1,i,none⟩=false)/\w.heap.size+4<=wr.heap.size:=by
  subst hW
  intro wr g
  have h4:=box4 g
  have hf:=fun i=>Za3 g i
  simp only [World.size_alloc] at h4 hf
  exact ⟨h4,hf,by have:=g.size;simp at this;omega⟩
 clear hW
 have hR:Calls Tryz.prog 87 #[.agg #[.slice al d.last.length cl,.slice aw d.wait.length cw,.int .i64 (d.arm:Int),.bool d.down],.func (.func 88) #[] #[.pointer (some ⟨w.heap.size,0,none⟩),.pointer (some ⟨w.heap.size+1,0,none⟩),.pointer (some ⟨w.heap.size+1+1,0,none⟩)]] W1 (Zk9 W1 (Zel d i b).1 (Zel d i b).2):=by
  by_cases hh:hasB d i=true/\b.size=32
  ·obtain ⟨h1,h2,h3⟩:=hasB_yes hh.1
   obtain ⟨j,rfl⟩:∃ j:Nat,i=(j:Int):=⟨i.toNat,by omega⟩
   rw [show (Zel d (j:Int) b).2=!(Zel d (j:Int) b).1.down by rw [write_yes h1 (by omega) hh.2]]
   refine orAsItWas_ok _ _ _ d _ _ (HD.out.ex hg) (call37 _) fun w1 g1=>?_
   obtain ⟨k1,k2,k3⟩:=HX w1 g1
   exact write1_yes _ _ _ al aw cl cw d j b w1 k1 k2 k3 (HD.out.ex (Ex.trans hg g1)) OK.out h1 (by omega) hh.2
  ·rw [write_no hh]
   refine orAsItWas_no _ _ _ d _ (HD.out.ex hg) OK.out (call37 _) fun w1 g1=>?_
   obtain ⟨k1,k2,k3⟩:=HX w1 g1
   exact write1_no _ _ _ al aw cl cw d i b w1 k1 k2 k3 hh
 have HR:=Lib.hid hR
 have Hr:=Lib.hid hr
 clear hR hr HX
 refine HR.out.mono ?_
 rintro e w2 ⟨u,rfl,ho,g⟩
 generalize Zel d i b=r at *
 obtain ⟨d',ok'⟩:=r
 obtain ⟨bl,dl,bw,dw,rfl⟩:=ho.form
 obtain ⟨⟨r0,r1,r2,r3⟩,rf,hz⟩:=Hr.out _ g
 have rf0:=rf 0
 have rf1:=rf 1
 have rf2:=rf 2
 have rf3:=rf 3
 have HO:=Lib.hid (OwnD.mono (base':=w.heap.size+4) ho (Hr.out _ (Ex.refl _)).2.2)
 have G:=Lib.hid (Ex.trans hg g)
 clear ho g rf
 go_wp2_with fail
 refine bodyPost_ret (v:=.tuple #[.agg #[.slice bl d'.last.length dl,.slice bw d'.wait.length dw,.int .i64 (d'.arm:Int),.bool d'.down],.bool ok']) (by simp [results,Tryz.results55,go_sem,r0,r1,r2,r3]) rfl ⟨_,rfl,OwnD.mono (base:=w.heap.size+4) ?_ (by omega),?_⟩
 ·repeat with_reducible (refine OwnD.st ?_ (by dsimp only;omega) _)
  exact HO.out
 ·repeat with_reducible (refine Ex.st ?_ (by dsimp only;omega) _)
  exact G.out

end Go.Proofs.YtpnegheknjeljaaGreat.dsk
end
section
/- Texts joined. -/
section
/- Contracts of package disk, thirteenth part: Flush, Crash. -/
namespace Go.Proofs.YtpnegheknjeljaaGreat.dsk
set_option maxRecDepth 100000
open Go.RowKit

theorem comes_whole (w:World):Comes w 96 #[] all32:=by
 intro w1 k a b _ ha hb
 refine (whole_any (k:Int) a b w1).mono ?_
 rintro e w' ⟨rfl,rfl⟩
 exact ⟨by rw [show putAt b a (all32 k)=b from putAt_full a b hb],0,rfl⟩
theorem gb_q {a b:World} {q i:Nat} (h:a.grownBy b (some q)) (u:Value):a.grownBy (b.setCell ⟨q,i,none⟩ u) (some q):=by
 have k:Below 0 b (b.setCell ⟨q,i,none⟩ u):=(Below.refl 0 b).setCell (Nat.zero_le _) u
 exact ⟨k.os.trans h.os,k.tape.trans h.tape,k.output.trans h.output,Nat.le_trans h.size k.size,fun j hj hne=>(Below.heap_setCell b ⟨q,i,none⟩ u j (fun e=>hne (by rw [e]))).trans (h.block j hj hne)⟩

set_option maxRecDepth 100000 in
set_option maxHeartbeats 1000000 in
theorem flush1_yes (q:Nat) (al aw:Option Addr) (cl cw:Nat) (d:D) (w:World) (hb:BoxD w q al d.last.length cl aw d.wait.length cw d.arm d.down) (hf:∀ i,w.frozen? ⟨q,i,none⟩=false)
  (hd:IsD w (.agg #[.slice al d.last.length cl,.slice aw d.wait.length cw,.int .i64 (d.arm:Int),.bool d.down]) d) (ok:d.ok) (hdn:d.down=false) :
  Calls Tryz.prog 94 #[.pointer (some ⟨q,0,none⟩)] w (Zqs q w (Zpw d)):=by
 have HD:=Lib.hid hd
 have OK:=Lib.hid ok
 have lq:q < w.heap.size:=hb.lt
 have G0:=Ex.mk_alloc w (.cells #[.slice none 0 0,.slice none 0 0,.int .i64 0,.bool false] 29)
 have HB:=Lib.hid (hb.ex G0)
 have HF:=Lib.hid (fun i=>G0.fz (p:=⟨q,i,none⟩) lq (hf i))
 have HN:=Lib.hid hdn
 obtain ⟨c0,c1,c2,c3⟩:=HB.out
 rw [hdn] at c3
 clear hd ok hb hf hdn
 go_enter Tryz.func94,Tryz.ntmps94
 go_wp2_with fail
 generalize hW:World.alloc w _=W1 at *
 have HX:=Lib.hid (fun (wr:World) (g:Ex W1 wr)=>show (wr.cell? ⟨w.heap.size,0,none⟩=some (.slice none 0 0)/\wr.cell? ⟨w.heap.size,1,none⟩=some (.slice none 0 0)/\wr.cell? ⟨w.heap.size,2,none⟩=some (.int .i64 0)/\wr.cell? ⟨w.heap.size,3,none⟩=some (.bool false))/\(∀ i,wr.frozen? ⟨w.heap.size,i,none⟩=false)/\w.heap.size+1<=wr.heap.size by
  subst hW
  exact ⟨box4 g,fun i=>Za3 g i,by have:=g.size;simp at this;omega⟩)
 clear hW
 refine (Zdo _ _ _ _ _ _ _ _).mono ?_
 rintro e w1 ⟨rfl,g1⟩
 obtain ⟨c0,c1,c2,c3⟩:=HB.out.ex g1
 have G1:=Lib.hid g1
 have GG:=Lib.hid (Ex.trans G0 g1)
 clear g1 G0
 go_wp2_with fail
 refine (lasting_any 96 #[] all32 call27 _ d _ (HD.out.ex GG.out) OK.out (comes_whole _) (fun _=>Nat.le_refl _)).mono ?_
 rintro e w2 ⟨u,rfl,ho,g2⟩
 obtain ⟨ua,uc,rfl,_,_⟩:=(RowE.of_own (E:=encS) ho).1.len
 obtain ⟨c0,c1,c2,c3⟩:=HB.out.ex (Ex.trans G1.out g2)
 obtain ⟨⟨r0,r1,r2,r3⟩,rf,hz⟩:=HX.out _ (Ex.trans G1.out g2)
 have rf0:=rf 0
 have rf1:=rf 1
 have rf2:=rf 2
 have rf3:=rf 3
 have HF2:=fun i=>Ex.fz (Ex.trans G1.out g2) (p:=⟨q,i,none⟩) (by have:=(HX.out _ (Ex.refl _)).2.2;show q < _;omega) (HF.out i)
 have q0:=HF2 0
 have q1:=HF2 1
 have HO:=Lib.hid (Zb8 (base':=w.heap.size+1) ho (HX.out _ G1.out).2.2)
 have G2:=Lib.hid (Ex.trans GG.out g2)
 have hne:¬ (q=w.heap.size):=by omega
 have hne':¬ (w.heap.size=q):=by omega
 clear ho g2 rf HF2
 go_wp2_with fail
 refine bodyPost_ret (v:=.agg #[.slice ua (layK all32 d.last d.wait d.wait.length).length uc,.slice none 0 0,.int .i64 (d.arm:Int),.bool d.down]) (by simp [results,Tryz.results94,go_sem,r0,r1,r2,r3]) rfl ⟨_,rfl,OwnD.mono (base:=w.heap.size+1) ⟨.slice ua (layK all32 d.last d.wait d.wait.length).length uc,.slice none 0 0,rfl,?_,World.ownsRow_nil _ _ _ _⟩ (by omega),?_⟩
 ·repeat with_reducible (refine ownsRow_setCell_below ?_ (by dsimp only;omega) _)
  exact HO.out
 ·repeat with_reducible (refine gb_st ?_ (by dsimp only;omega) _)
  exact gb_q (gb_q (gb_ex G2.out _) _) _

theorem flush1_no (q:Nat) (al aw:Option Addr) (cl cw:Nat) (d:D) (w:World) (hb:BoxD w q al d.last.length cl aw d.wait.length cw d.arm d.down) (hdn:d.down=true) :
  Calls Tryz.prog 94 #[.pointer (some ⟨q,0,none⟩)] w (BoomE w):=by
 have lq:q < w.heap.size:=hb.lt
 have G0:=Ex.mk_alloc w (.cells #[.slice none 0 0,.slice none 0 0,.int .i64 0,.bool false] 29)
 obtain ⟨c0,c1,c2,c3⟩:=hb.ex G0
 rw [hdn] at c3
 have HG:=Lib.hid G0
 clear hb hdn G0
 go_enter Tryz.func94,Tryz.ntmps94
 go_wp2_with fail
 refine (Zkx _ _ _ _ _ _ _ _).mono ?_
 rintro e w1 ⟨u,v,rfl,g1⟩
 exact ⟨rfl,_,_,rfl,Ex.trans HG.out g1⟩

set_option maxRecDepth 100000 in
set_option maxHeartbeats 1000000 in
theorem flush_any (v:Value) (d:D) (w:World) (hd:IsD w v d) (ok:d.ok):Calls Tryz.prog 56 #[v] w (Zk9 w (Zf7 d).1 (Zf7 d).2):=by
 have OK:=Lib.hid ok
 have HD:=Lib.hid hd
 obtain ⟨al,cl,aw,cw,rfl,hl,hw⟩:=hd
 clear hl hw ok
 go_enter Tryz.func56,Tryz.ntmps56
 go_wp2_with fail
 generalize hW:(w.alloc _).alloc _=W1
 have HB:=Lib.hid (boxes hW)
 clear hW
 have hR:Calls Tryz.prog 87 #[.agg #[.slice al d.last.length cl,.slice aw d.wait.length cw,.int .i64 (d.arm:Int),.bool d.down],.func (.func 94) #[] #[.pointer (some ⟨w.heap.size,0,none⟩)]] W1 (Zpj w.heap.size W1 (Zf7 d).1 (Zf7 d).2):=by
  by_cases hdn:d.down=true
  ·rw [show Zf7 d=(d,false) by simp [Zf7,hdn]]
   refine (orAsItWas_no _ _ _ d _ (HD.out.ex HB.out.g) OK.out (call24 _) fun w1 g1=>?_).mono ?_
   ·exact flush1_no _ al aw cl cw d w1 (BoxD.ex ⟨HB.out.c0,HB.out.c1,HB.out.c2,HB.out.c3⟩ g1) hdn
   ·rintro e w' ⟨v,he,ho,hg⟩
    exact ⟨v,he,ho,gb_ex hg _⟩
  ·have hdn:d.down=false:=by simpa using hdn
   rw [show Zf7 d=(Zpw d,!(Zpw d).down) by simp [Zf7,hdn,Zpw]]
   refine orAsItWas_okq w.heap.size _ _ _ d _ _ HB.out.q0 (HD.out.ex HB.out.g) (call24 _) fun w1 g1=>?_
   have hb1:=HB.out.ex g1
   exact flush1_yes _ al aw cl cw d w1 ⟨hb1.c0,hb1.c1,hb1.c2,hb1.c3⟩ hb1.fq (HD.out.ex (Ex.trans HB.out.g g1)) OK.out hdn
 have HR:=Lib.hid hR
 clear hR
 refine HR.out.mono ?_
 rintro e w2 ⟨u,rfl,ho,g⟩
 generalize Zf7 d=r at *
 obtain ⟨d',ok'⟩:=r
 obtain ⟨bl,dl,bw,dw,rfl⟩:=ho.form
 have hne:w.heap.size+1 ≠ w.heap.size:=by omega
 have r0:=Zer g hne HB.out.r0
 have r1:=Zer g hne HB.out.r1
 have r2:=Zer g hne HB.out.r2
 have r3:=Zer g hne HB.out.r3
 have rf0:=gb_fz g hne HB.out.q1 (HB.out.fr 0)
 have rf1:=gb_fz g hne HB.out.q1 (HB.out.fr 1)
 have rf2:=gb_fz g hne HB.out.q1 (HB.out.fr 2)
 have rf3:=gb_fz g hne HB.out.q1 (HB.out.fr 3)
 have HO:=Lib.hid (OwnD.mono (base':=w.heap.size+2) ho HB.out.q)
 have G:Hid (Ex w w2):=Lib.hid (Below.grown HB.out.g g HB.out.g.size (fun k e=>by cases e;exact Nat.le_refl _))
 clear ho g hne
 go_wp2_with fail
 refine bodyPost_ret (v:=.tuple #[.agg #[.slice bl d'.last.length dl,.slice bw d'.wait.length dw,.int .i64 (d'.arm:Int),.bool d'.down],.bool ok']) (by simp [results,Tryz.results56,go_sem,r0,r1,r2,r3]) rfl ⟨_,rfl,OwnD.mono (base:=w.heap.size+2) ?_ (by omega),?_⟩
 ·repeat with_reducible (refine OwnD.st ?_ (by dsimp only;omega) _)
  exact HO.out
 ·repeat with_reducible (refine Ex.st ?_ (by dsimp only;omega) _)
  exact G.out

end Go.Proofs.YtpnegheknjeljaaGreat.dsk
end
section
/- The contracts of disk where the Zcn is known. -/
namespace Go.Proofs.YtpnegheknjeljaaGreat.dsk
set_option maxRecDepth 100000
open Go.RowKit
def Holds (w:World) (p:Value) (d:D):Prop :=
 ∃ b al cl aw cw,p=.pointer (some ⟨b,0,none⟩)/\BoxD w b al d.last.length cl aw d.wait.length cw d.arm d.down/\IsD w (.agg #[.slice al d.last.length cl,.slice aw d.wait.length cw,.int .i64 (d.arm:Int),.bool d.down]) d
theorem Holds.ex {w w':World} {p:Value} {d:D} (h:Holds w p d) (g:Ex w w'):Holds w' p d:=by
 obtain ⟨b,al,cl,aw,cw,e,h1,h2⟩:=h
 exact ⟨b,al,cl,aw,cw,e,h1.ex g,h2.ex g⟩

end Go.Proofs.YtpnegheknjeljaaGreat.dsk
end
end
