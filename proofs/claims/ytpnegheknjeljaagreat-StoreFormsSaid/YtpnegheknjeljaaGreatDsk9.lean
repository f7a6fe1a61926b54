/- Texts joined. -/
import Derived.Test.YtpnegheknjeljaaGreatDsk2
import Derived.StillTailTactics
import Derived.Deep.RegionHeld3
import Derived.Test.YtpnegheknjeljaaGreatDsk7
section
/- Contracts of package disk, third part: lasting. -/
namespace Go.Proofs.YtpnegheknjeljaaGreat.dsk
set_option maxRecDepth 100000
open Go.RowKit

def Comes (W:World) (fid:FuncId) (cap:Array Value) (f:Nat->Nat):Prop :=
 ∀ (w:World) (k:Nat) (a b:ByteArray),Ex W w->a.size=32->b.size=32 →
  Calls Tryz.prog fid (#[.int .i64 (k:Int),.string a,.string b]++cap) w fun e w'=>e=.returned (.string (putAt b a (f k)))/\∃ n,w'=w.drewN n

def RLay (W:World) (d:D) (f:Nat->Nat) (l i:Value) (wr:World):Prop :=
 ∃ k:Nat,k<=d.wait.length/\i=.int .i64 k/\wr.ownsRow W.heap.size 9 1 l d.last.length (encS.all (layK f d.last d.wait k))/\Ex W wr

set_option maxRecDepth 100000 in
set_option maxHeartbeats 1000000 in
theorem lasting_any (fid:FuncId) (cap:Array Value) (f:Nat->Nat) (hcf:∀ args w,(callFunc fid args).run Tryz.prog w=.ok (.enter fid args) w) (v:Value) (d:D) (w:World)
  (hd:IsD w v d) (ok:d.ok) (hf:Comes w fid cap f) (h32:∀ k,f k<=32) :
  Calls Tryz.prog 95 #[v,.func (.func fid) #[] cap] w (catS.Owns w (layK f d.last d.wait d.wait.length)):=by
 obtain ⟨al,cl,aw,cw,rfl,hl,hw⟩:=hd
 have HF:=Lib.hid hf
 have H32:=Lib.hid h32
 have OK:=Lib.hid ok
 have hn:=ok.n
 have hm:=ok.many
 clear hf h32 ok
 have HL:=Lib.hid hl
 have HW:=Lib.hid hw
 clear hl hw
 go_enter Tryz.func95,Tryz.ntmps95
 go_wp2_with fail
 refine (catS.concat_one _ _ d.last _ (RowV.made1_at _ _ _ _ (by simp)) (HL.out.ex (Ex.trans (Ex.mk_alloc _ _) (Ex.mk_alloc _ _))) (by omega)).mono ?_
 rintro e w1 ⟨u,rfl,hown,g1⟩
 have G1:=Lib.hid (Ex.trans (Ex.mk_alloc _ _) g1)
 have HO:=Lib.hid hown
 clear hown g1
 have HB:=Lib.hid (fun (wr:World) (h:Ex (w.alloc (.cells #[.slice al d.last.length cl,.slice aw d.wait.length cw,.int .i64 (d.arm:Int),.bool d.down] 29)) wr)=>box4 h)
 have GW:=Lib.hid (Ex.mk_alloc w (.cells #[.slice al d.last.length cl,.slice aw d.wait.length cw,.int .i64 (d.arm:Int),.bool d.down] 29))
 have HQ:=Lib.hid (show w.heap.size+1<=(w.alloc (.cells #[.slice al d.last.length cl,.slice aw d.wait.length cw,.int .i64 (d.arm:Int),.bool d.down] 29)).heap.size by simp)
 obtain ⟨c0,c1,c2,c3⟩:=box4 G1.out
 go_wp2_with fail
 clear c0 c1 c2 c3
 generalize hW1:w.alloc (.cells #[.slice al d.last.length cl,.slice aw d.wait.length cw,.int .i64 (d.arm:Int),.bool d.down] 29)=W1 at *
 clear hW1
 have HO1:=Lib.hid (Zb8 HO.out (by simp):w1.ownsRow W1.heap.size 9 1 u d.last.length (encS.all d.last))
 clear HO
 go_loopw [15] (RLay W1 d f u) (fun i _=>d.wait.length - (intOf i).toNat)
 case atStart=>exact ⟨0,by omega,rfl,HO1.out,G1.out⟩
 case round =>
  clear HO1 G1
  obtain ⟨k,hk,rfl,hown,gk⟩:=hrel
  obtain ⟨c0,c1,c2,c3⟩:=HB.out _ gk
  by_cases hlt:k < d.wait.length
  ·obtain ⟨b,off,rfl,hbl⟩:=HW.out.addr (by omega)
   have hx:d.wait[k]?=some (d.wait.getD k nop):=by simp [List.getD,hlt]
   have hwr:=HW.out.ex (Ex.trans GW.out gk)
   have e0:=hwr.at (j:=0) hx rfl
   have e1:=hwr.at (j:=1) hx rfl
   obtain ⟨hp,hs⟩:=OK.out.wlen _ (Zlj (d:=nop) hlt)
   have hsz:=layK_sizes (f:=f) H32.out OK.out.len OK.out.wlen k hk _ (Zlj (d:=ByteArray.empty) (i:=(d.wait.getD k nop).1) (by rw [Zm4];exact hp))
   simp only [encP,Nat.add_zero] at e0 e1
   rw [<- Nat.add_assoc] at e1
   have HS:=Lib.hid (show layK f d.last d.wait (k+1)=Zrc (layK f d.last d.wait k) (d.wait.getD k nop) (f k) from rfl)
   have hll:=Zm4 f d.last d.wait k
   clear hx hwr
   generalize layK f d.last d.wait k=L at *
   generalize d.wait.getD k nop=p at *
   obtain ⟨pi,pb⟩:=p
   simp only at e0 e1 hp hs hsz HS
   have i0:(0:Int)<=(k:Int):=by omega
   have i1:(k:Int) < (d.wait.length:Int):=by omega
   have HH:=Zqg al (some ⟨b,off,none⟩) d.last.length cl d.wait.length cw (d.arm:Int) d.down (pi:Int)
   rw [show inN d.last.length (pi:Int)=true by simp [inN,hp]] at HH
   have hqs:w.heap.size < wr.heap.size:=by have:=gk.size;have:=HQ.out;omega
   have hbs:b < wr.heap.size:=by omega
   have HH1:=Lib.hid HH
   clear HH
   have HL1:=Lib.hid hll
   have HS1:=Lib.hid hs
   have HSZ:=Lib.hid hsz
   have HOw:=Lib.hid hown
   clear hll hs hsz hown
   go_wp2_with fail
   refine (HH1.out _).mono ?_
   rintro e w2 ⟨rfl,g2⟩
   have gw2:=Ex.trans (Ex.mk_alloc _ _) g2
   have b0:=Zev g2 0 _ rfl
   have b1:=Zev g2 1 _ rfl
   have hown2:=Zod HOw.out gw2
   obtain ⟨g,cap',rfl,hbg,hgl⟩:=hown2.form (by omega)
   have cL:w2.cell? ⟨g,pi,none⟩=some (.string (L.getD pi ByteArray.empty)):=by
    rw [hown2.cellAt pi (by omega),encS_get _ _ (by rw [HL1.out];exact hp)]
   have fL:=hown2.frozenAt pi
   obtain ⟨hst,hgb⟩:=hown2.stored pi (.string (putAt pb (L.getD pi ByteArray.empty) (f k)))
   rw [<- encS_set] at hst
   have HST:=Lib.hid (show (w2.setCell ⟨g,pi,none⟩ (.string (putAt pb (L.getD pi ByteArray.empty) (f k)))).ownsRow W1.heap.size 9 1 (.slice (some ⟨g,0,none⟩) d.last.length cap') d.last.length (encS.all (layK f d.last d.wait (k+1))) by rw [HS.out];exact hst)
   have GST:=Lib.hid (Below.grown (Ex.trans gk gw2) hgb (Ex.trans gk gw2).size (fun b h=>by cases h;exact hbg))
   have HC:=Lib.hid (HF.out w2.drew k (L.getD pi ByteArray.empty) pb (Below.drew (Ex.trans GW.out (Ex.trans gk gw2))) HSZ.out HS1.out)
   clear hst hgb hown2 HOw HS HSZ HS1 g2 gw2 c0 c1 c2 c3 e0 e1 HH1 HB HW
   generalize L.getD pi ByteArray.empty=ahead at *
   have j0:(0:Int)<=(pi:Int):=by omega
   have j1:(pi:Int) < (d.last.length:Int):=by omega
   go_wp2_with fail
   go_region_with (with_reducible refine Calls.mono HC.out ?_;rintro e w' ⟨rfl,n,rfl⟩)
   all_goals
    go_wp2_with fail
    go_roundw
    case rel=>exact ⟨k+1,by omega,by go_num,Zod HST.out (Ex.drewN _ _),Ex.trans GST.out (Ex.drewN _ _)⟩
    case measure=>simp [intOf];omega
  ·have hke:k=d.wait.length:=by omega
   have hown':wr.ownsRow W1.heap.size 9 1 u (layK f d.last d.wait d.wait.length).length (encS.all (layK f d.last d.wait d.wait.length)):=by rw [Zm4,<- hke];exact hown
   have HE:=Lib.hid hown'
   have hge:decide (k < d.wait.length)=false:=decide_eq_false hlt
   clear hown hown' hke hlt
   have hqs:w.heap.size<=W1.heap.size:=by have:=HQ.out;omega
   go_wp2_with fail
   go_ret
   exact ⟨_,rfl,Zb8 HE.out hqs,Ex.trans GW.out gk⟩

end Go.Proofs.YtpnegheknjeljaaGreat.dsk
end
section
/- Texts joined. -/
section
/- Contracts of package disk, eighth part: as it was, or what was answered. -/
namespace Go.Proofs.YtpnegheknjeljaaGreat.dsk
set_option maxRecDepth 100000
open Go.RowKit

theorem OwnD.dr {base:Nat} {w:World} {v:Value} {d:D} (h:OwnD base w v d):OwnD base w.drew v d:=h
theorem OwnD.al {base:Nat} {w:World} {v:Value} {d:D} (h:OwnD base w v d) (o:Obj):OwnD base (w.alloc o) v d:=h.ex (Ex.mk_alloc _ _)

set_option maxRecDepth 100000 in
set_option maxHeartbeats 1000000 in
theorem orAsItWas_ok (fid:FuncId) (cap:Array Value) (v:Value) (d0 d:D) (w:World) (hd:IsD w v d0) (hc:∀ w,(callFunc fid cap).run Tryz.prog w=.ok (.enter fid cap) w)
  (h:∀ w1,Ex w w1->Calls Tryz.prog fid cap w1 (Zr4 w1 d)) :
  Calls Tryz.prog 87 #[v,.func (.func fid) #[] cap] w (Zk9 w d (!d.down)):=by
 have H:=Lib.hid h
 have HC:=Lib.hid hc
 clear h hc
 obtain ⟨al,cl,aw,cw,rfl,hl,hw⟩:=hd
 clear hl hw
 go_enter Tryz.func87,Tryz.ntmps87
 go_wp2_with fail
 generalize hW:(w.alloc _).alloc _=W1
 have HB:=Lib.hid (boxes hW)
 clear hW
 refine (orNo_disk_ok fid cap W1 d HC.out (fun w1 hw1=>H.out w1 (Ex.trans HB.out.g hw1))).mono ?_
 rintro e w2 ⟨u,rfl,ho,g⟩
 have HO:=Lib.hid ho
 obtain ⟨bl,dl,bw,dw,rfl⟩:=ho.form
 obtain ⟨-,-,-,-,-,-,-,s0,s1,s2,s3,sf⟩:=HB.out.ex g
 have sf0:=sf 0
 have sf1:=sf 1
 have sf2:=sf 2
 have sf3:=sf 3
 have hq1:=(HB.out.ex g).q1
 have G:=Lib.hid (Ex.trans HB.out.g g)
 have HQ:=Lib.hid HB.out.q
 clear ho g sf
 go_wp2_with fail
 go_region
 all_goals
  go_wp2_with fail
  have hq:=HB.out.q
  refine bodyPost_ret (v:=.tuple #[.agg #[.slice bl d.last.length dl,.slice bw d.wait.length dw,.int .i64 (d.arm:Int),.bool d.down],.bool (!d.down)]) (by simp [results,Tryz.results87,go_sem,s0,s1,s2,s3,hq1]) rfl ⟨_,rfl,OwnD.mono (base:=W1.heap.size) ?_ (by omega),?_⟩
  ·repeat (with_reducible (first | refine OwnD.dr ?_ | refine OwnD.al ?_ _ | refine OwnD.st ?_ (by dsimp only;omega) _))
   exact HO.out
  ·repeat (with_reducible (first | refine Ex.dr ?_ | refine Ex.al ?_ _ | refine Ex.st ?_ (by dsimp only;omega) _))
   exact G.out

set_option maxRecDepth 100000 in
set_option maxHeartbeats 1000000 in
theorem orAsItWas_no (fid:FuncId) (cap:Array Value) (v:Value) (d0:D) (w:World) (hd:IsD w v d0) (ok:d0.ok) (hc:∀ w,(callFunc fid cap).run Tryz.prog w=.ok (.enter fid cap) w)
  (h:∀ w1,Ex w w1->Calls Tryz.prog fid cap w1 (BoomE w1)) :
  Calls Tryz.prog 87 #[v,.func (.func fid) #[] cap] w (Zk9 w d0 false):=by
 have H:=Lib.hid h
 have HC:=Lib.hid hc
 have HD:=Lib.hid hd
 have OK:=Lib.hid ok
 clear h hc ok
 obtain ⟨al,cl,aw,cw,rfl,hl,hw⟩:=hd
 clear hl hw
 go_enter Tryz.func87,Tryz.ntmps87
 go_wp2_with fail
 generalize hW:(w.alloc _).alloc _=W1
 have HB:=Lib.hid (boxes hW)
 clear hW
 refine (orNo_disk_no fid cap W1 HC.out (fun w1 hw1=>H.out w1 (Ex.trans HB.out.g hw1))).mono ?_
 rintro e w2 ⟨rfl,g⟩
 unfold Zero
 obtain ⟨-,-,c0,c1,c2,c3,-,s0,s1,s2,s3,sf⟩:=HB.out.ex g
 have hq0:=(HB.out.ex g).q0
 have hq1:=(HB.out.ex g).q1
 have G:=Lib.hid (Ex.trans HB.out.g g)
 have HB2:=Lib.hid (HB.out.ex g)
 clear g sf
 go_wp2_with fail
 refine (same_any _ d0 _ (HD.out.ex (G.out.al _)) OK.out).mono ?_
 rintro e w3 ⟨u,rfl,ho,g⟩
 have HO:=Lib.hid ho
 obtain ⟨bl,dl,bw,dw,rfl⟩:=OwnD.form ho
 obtain ⟨-,-,-,-,-,-,-,s0,s1,s2,s3,sf⟩:=HB2.out.ex (Ex.trans (Ex.mk_alloc _ _) g)
 have sf0:=sf 0
 have sf1:=sf 1
 have sf2:=sf 2
 have sf3:=sf 3
 have G3:=Lib.hid (Ex.trans (G.out.al _) g)
 have HQ:=Lib.hid HB2.out.q
 clear ho g sf
 go_wp2_with fail
 have hq:=HB2.out.q
 refine bodyPost_ret (v:=.tuple #[.agg #[.slice bl d0.last.length dl,.slice bw d0.wait.length dw,.int .i64 (d0.arm:Int),.bool d0.down],.bool false]) (by simp [results,Tryz.results87,go_sem,s0,s1,s2,s3]) rfl ⟨_,rfl,OwnD.mono (base:=w2.heap.size) ?_ (by omega),?_⟩
 ·repeat (with_reducible (first | refine OwnD.dr ?_ | refine OwnD.al ?_ _ | refine OwnD.st ?_ (by dsimp only;omega) _))
  exact OwnD.mono HO.out (by simp)
 ·repeat (with_reducible (first | refine Ex.dr ?_ | refine Ex.al ?_ _ | refine Ex.st ?_ (by dsimp only;omega) _))
  exact G3.out

end Go.Proofs.YtpnegheknjeljaaGreat.dsk
end
section
/- Contracts of package disk, ninth part: guarded calls that write a variable that they share (block q); Read, Write, Flush, Crash. -/
namespace Go.Proofs.YtpnegheknjeljaaGreat.dsk
set_option maxRecDepth 100000
open Go.RowKit

theorem Zo6 {a b c:World} {row:Option Nat} (h:a.grownBy b row) (k:Below a.heap.size b c):a.grownBy c row :=
 ⟨k.os.trans h.os,k.tape.trans h.tape,k.output.trans h.output,Nat.le_trans h.size k.size,fun i hi hne=>(k.block i hi).trans (h.block i hi hne)⟩
theorem gb_st {a b:World} {row:Option Nat} (h:a.grownBy b row) {p:Addr} (hp:a.heap.size<=p.block) (u:Value):a.grownBy (b.setCell p u) row:=Zo6 h ((Below.refl _ _).setCell hp u)
theorem gb_al {a b:World} {row:Option Nat} (h:a.grownBy b row) (o:Obj):a.grownBy (b.alloc o) row:=Zo6 h ((Below.refl _ _).alloc h.size o)
theorem gb_dr {a b:World} {row:Option Nat} (h:a.grownBy b row):a.grownBy b.drew row:=Zo6 h ((Below.refl _ _).drew)
theorem gb_ex {a b:World} (h:Ex a b) (row:Option Nat):a.grownBy b row:=⟨h.os,h.tape,h.output,h.size,fun k hk _=>h.block k hk⟩
theorem gb_pre {a b c:World} {row:Option Nat} (h:Ex a b) (k:b.grownBy c row):a.grownBy c row :=
 ⟨k.os.trans h.os,k.tape.trans h.tape,k.output.trans h.output,Nat.le_trans h.size k.size,fun i hi hne=>(k.block i (Nat.lt_of_lt_of_le hi h.size) hne).trans (h.block i hi)⟩
theorem Zer {a b:World} {q b0 i:Nat} {u:Value} (h:a.grownBy b (some q)) (hne:b0 ≠ q) (hc:a.cell? ⟨b0,i,none⟩=some u):b.cell? ⟨b0,i,none⟩=some u :=
 h.cell hc (fun e=>hne (by cases e;rfl))
theorem gb_fz {a b:World} {q b0 i:Nat} (h:a.grownBy b (some q)) (hne:b0 ≠ q) (hl:b0 < a.heap.size) (hc:a.frozen? ⟨b0,i,none⟩=false):b.frozen? ⟨b0,i,none⟩=false :=
 (h.frozen_far _ hl (fun e=>hne (by cases e;rfl))).trans hc

def Zqs (q:Nat) (w:World) (d:D) (e:Ending) (w':World):Prop:=∃ v,e=.returned v/\OwnD w.heap.size w' v d/\w.grownBy w' (some q)
def Zpj (q:Nat) (w:World) (d:D) (b:Bool) (e:Ending) (w':World):Prop:=∃ v,e=.returned (.tuple #[v,.bool b])/\OwnD w.heap.size w' v d/\w.grownBy w' (some q)

theorem orNo_disk_okq (q:Nat) (fid:FuncId) (cap:Array Value) (w:World) (d:D) (hq:q < w.heap.size) (hc:∀ w,(callFunc fid cap).run Tryz.prog w=.ok (.enter fid cap) w)
  (h:∀ w1,Ex w w1->Calls Tryz.prog fid cap w1 (Zqs q w1 d)) :
  Calls Tryz.prog 128 #[.func (.func fid) #[] cap] w (Zpj q w d true):=by
 have H:=Lib.hid h
 clear h
 go_enter_defers Tryz.func128,Tryz.ntmps128
 go_wp2_with fail
 refine (H.out _ (Ex.mk_alloc _ _)).mono ?_
 rintro e w' ⟨v,rfl,ho,g⟩
 have G:=Lib.hid (gb_pre (Ex.mk_alloc _ _) g)
 have HO:=Lib.hid ho
 obtain ⟨al,cl,aw,cw,rfl⟩:=ho.form
 obtain ⟨a0,a1,a2,a3⟩:=box4 (Ex.refl (w.alloc (.cells #[.slice none 0 0,.slice none 0 0,.int .i64 0,.bool false] 29)))
 have hne:w.heap.size ≠ q:=by omega
 have c0:=Zer g hne a0
 have c1:=Zer g hne a1
 have c2:=Zer g hne a2
 have c3:=Zer g hne a3
 have f0:=gb_fz g hne (by simp) (Za3 (Ex.refl _) 0)
 have f1:=gb_fz g hne (by simp) (Za3 (Ex.refl _) 1)
 have f2:=gb_fz g hne (by simp) (Za3 (Ex.refl _) 2)
 have f3:=gb_fz g hne (by simp) (Za3 (Ex.refl _) 3)
 clear ho g a0 a1 a2 a3 hne
 go_wp2_with fail
 refine leaves_cons (f:=150) (args:=#[]) (by simp) (by simp [go_sem]) ?_
 refine (rec_idle_disk _).mono ?_
 rintro e u' w'' ⟨rfl,rfl,rfl⟩
 simp [Leaves,settle,results,Tryz.results128,go_sem,c0,c1,c2,c3]
 refine ⟨_,rfl,OwnD.mono (base:=(w.alloc (.cells #[.slice none 0 0,.slice none 0 0,.int .i64 0,.bool false] 29)).heap.size) ?_ (by simp),?_⟩
 ·repeat (refine OwnD.st ?_ (by simp) _)
  exact HO.out
 ·repeat (refine gb_st ?_ (by simp) _)
  exact G.out

set_option maxRecDepth 100000 in
set_option maxHeartbeats 1000000 in
theorem orAsItWas_okq (q:Nat) (fid:FuncId) (cap:Array Value) (v:Value) (d0 d:D) (w:World) (hq:q < w.heap.size) (hd:IsD w v d0) (hc:∀ w,(callFunc fid cap).run Tryz.prog w=.ok (.enter fid cap) w)
  (h:∀ w1,Ex w w1->Calls Tryz.prog fid cap w1 (Zqs q w1 d)) :
  Calls Tryz.prog 87 #[v,.func (.func fid) #[] cap] w (Zpj q w d (!d.down)):=by
 have H:=Lib.hid h
 have HC:=Lib.hid hc
 clear h hc
 obtain ⟨al,cl,aw,cw,rfl,hl,hw⟩:=hd
 clear hl hw
 go_enter Tryz.func87,Tryz.ntmps87
 go_wp2_with fail
 generalize hW:(w.alloc _).alloc _=W1
 have HB:=Lib.hid (boxes hW)
 clear hW
 refine (orNo_disk_okq q fid cap W1 d (Nat.lt_of_lt_of_le hq HB.out.g.size) HC.out (fun w1 hw1=>H.out w1 (Ex.trans HB.out.g hw1))).mono ?_
 rintro e w2 ⟨u,rfl,ho,g⟩
 have HO:=Lib.hid ho
 obtain ⟨bl,dl,bw,dw,rfl⟩:=ho.form
 have hne:w.heap.size+1 ≠ q:=by omega
 have s0:=Zer g hne HB.out.r0
 have s1:=Zer g hne HB.out.r1
 have s2:=Zer g hne HB.out.r2
 have s3:=Zer g hne HB.out.r3
 have sf0:=gb_fz g hne HB.out.q1 (HB.out.fr 0)
 have sf1:=gb_fz g hne HB.out.q1 (HB.out.fr 1)
 have sf2:=gb_fz g hne HB.out.q1 (HB.out.fr 2)
 have sf3:=gb_fz g hne HB.out.q1 (HB.out.fr 3)
 have hq1:w.heap.size+1 < w2.heap.size:=Nat.lt_of_lt_of_le HB.out.q1 g.size
 have G:=Lib.hid (gb_pre HB.out.g g)
 have HQ:=Lib.hid HB.out.q
 clear ho g hne
 go_wp2_with fail
 go_region
 all_goals
  go_wp2_with fail
  have hq:=HB.out.q
  refine bodyPost_ret (v:=.tuple #[.agg #[.slice bl d.last.length dl,.slice bw d.wait.length dw,.int .i64 (d.arm:Int),.bool d.down],.bool (!d.down)]) (by simp [results,Tryz.results87,go_sem,s0,s1,s2,s3,hq1]) rfl ⟨_,rfl,OwnD.mono (base:=W1.heap.size) ?_ (by omega),?_⟩
  ·repeat with_reducible (first | refine OwnD.dr ?_ | refine OwnD.al ?_ _ | refine OwnD.st ?_ (by dsimp only;omega) _)
   exact HO.out
  ·repeat with_reducible (first | refine gb_dr ?_ | refine gb_al ?_ _ | refine gb_st ?_ (by dsimp only;omega) _)
   exact G.out

end Go.Proofs.YtpnegheknjeljaaGreat.dsk
end
end
