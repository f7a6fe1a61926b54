/- Texts joined. -/
import Derived.Test.YtpnegheknjeljaaGreatDsk9
section
/- Contracts of package disk, tenth part: Read, Write, Flush, Crash. -/
namespace Go.Proofs.YtpnegheknjeljaaGreat.dsk
set_option maxRecDepth 100000
open Go.RowKit

structure BoxD (w:World) (q:Nat) (al:Option Addr) (n cl:Nat) (aw:Option Addr) (m cw:Nat) (arm:Int) (down:Bool):Prop where
 c0:w.cell? ⟨q,0,none⟩=some (.slice al n cl)
 c1:w.cell? ⟨q,1,none⟩=some (.slice aw m cw)
 c2:w.cell? ⟨q,2,none⟩=some (.int .i64 arm)
 c3:w.cell? ⟨q,3,none⟩=some (.bool down)
theorem BoxD.ex {w w':World} {q:Nat} {al:Option Addr} {n cl:Nat} {aw:Option Addr} {m cw:Nat} {arm:Int} {down:Bool} (h:BoxD w q al n cl aw m cw arm down) (g:Ex w w'):BoxD w' q al n cl aw m cw arm down :=
 ⟨g.on h.c0,g.on h.c1,g.on h.c2,g.on h.c3⟩
theorem BoxD.lt {w:World} {q:Nat} {al:Option Addr} {n cl:Nat} {aw:Option Addr} {m cw:Nat} {arm:Int} {down:Bool} (h:BoxD w q al n cl aw m cw arm down):q < w.heap.size:=World.block_lt_of_cell? w _ h.c0

theorem read1_yes (q p:Nat) (al aw:Option Addr) (cl cw:Nat) (d:D) (i:Nat) (w:World) (hb:BoxD w q al d.last.length cl aw d.wait.length cw d.arm d.down) (hp:w.cell? ⟨p,0,none⟩=some (.int .i64 (i:Int)))
  (hd:IsD w (.agg #[.slice al d.last.length cl,.slice aw d.wait.length cw,.int .i64 (d.arm:Int),.bool d.down]) d) (ok:d.ok) (hdn:d.down=false) (hi:i < d.last.length) :
  Calls Tryz.prog 147 #[.pointer (some ⟨q,0,none⟩),.pointer (some ⟨p,0,none⟩)] w (Zmv w (.string (latest d i))):=by
 have HD:=Lib.hid hd
 have OK:=Lib.hid ok
 have HB:=Lib.hid hb
 have HI:=Lib.hid hi
 have HH:=fun w=>Zim al aw d.last.length cl d.wait.length cw d.arm false (i:Int) w (by simp [inN,hi])
 have HH:=Lib.hid HH
 rw [hdn] at HD HB
 obtain ⟨c0,c1,c2,c3⟩:=HB.out
 clear hd ok hb hdn hi
 go_enter Tryz.func147,Tryz.ntmps147
 go_wp2_with fail
 refine (Zdo _ _ _ _ _ _ _ _).mono ?_
 rintro e w1 ⟨rfl,g1⟩
 obtain ⟨c0,c1,c2,c3⟩:=HB.out.ex g1
 have hp1:=g1.on hp
 go_wp2_with fail
 refine (HH.out _).mono ?_
 rintro e w2 ⟨rfl,g2⟩
 obtain ⟨c0,c1,c2,c3⟩:=HB.out.ex (Ex.trans g1 g2)
 have hp2:=g2.on hp1
 go_wp2_with fail
 refine (latest_any _ d i _ (HD.out.ex (Ex.trans g1 g2)) OK.out HI.out).mono ?_
 rintro e w3 ⟨rfl,g3⟩
 go_wp2_with fail
 go_ret
 exact ⟨rfl,Ex.trans (Ex.trans g1 g2) g3⟩

theorem read1_no (q p:Nat) (al aw:Option Addr) (cl cw:Nat) (d:D) (i:Int) (w:World) (hb:BoxD w q al d.last.length cl aw d.wait.length cw d.arm d.down) (hp:w.cell? ⟨p,0,none⟩=some (.int .i64 i)) (hn:¬ hasB d i=true) :
  Calls Tryz.prog 147 #[.pointer (some ⟨q,0,none⟩),.pointer (some ⟨p,0,none⟩)] w (BoomE w):=by
 by_cases hdn:d.down=true
 ·have HB:=Lib.hid hb
  rw [hdn] at HB
  obtain ⟨c0,c1,c2,c3⟩:=HB.out
  clear hb hdn hn
  go_enter Tryz.func147,Tryz.ntmps147
  go_wp2_with fail
  refine (Zkx _ _ _ _ _ _ _ _).mono ?_
  rintro e w1 ⟨u,v,rfl,g1⟩
  exact ⟨rfl,_,_,rfl,g1⟩
 ·have hdn:d.down=false:=by simpa using hdn
  have hin:inN d.last.length i=false:=by
   simp only [inN,decide_eq_false_iff_not]
   rcases hasB_no hn with h | h | h
   ·rw [hdn] at h;cases h
   ·omega
   ·omega
  have HH:=Lib.hid (fun w=>mustHave_no al aw d.last.length cl d.wait.length cw d.arm false i w hin)
  have HB:=Lib.hid hb
  rw [hdn] at HB
  obtain ⟨c0,c1,c2,c3⟩:=HB.out
  clear hb hdn hn hin
  go_enter Tryz.func147,Tryz.ntmps147
  go_wp2_with fail
  refine (Zdo _ _ _ _ _ _ _ _).mono ?_
  rintro e w1 ⟨rfl,g1⟩
  obtain ⟨c0,c1,c2,c3⟩:=HB.out.ex g1
  have hp1:=g1.on hp
  go_wp2_with fail
  refine (HH.out _).mono ?_
  rintro e w2 ⟨u,v,rfl,g2⟩
  exact ⟨rfl,_,_,rfl,Ex.trans g1 g2⟩

theorem call33 (cap:Array Value) (w:World):(callFunc 147 cap).run Tryz.prog w=.ok (.enter 147 cap) w:=by simp [go_sem]
theorem call37 (cap:Array Value) (w:World):(callFunc 88 cap).run Tryz.prog w=.ok (.enter 88 cap) w:=by simp [go_sem]
theorem call24 (cap:Array Value) (w:World):(callFunc 94 cap).run Tryz.prog w=.ok (.enter 94 cap) w:=by simp [go_sem]
theorem call27 (cap:Array Value) (w:World):(callFunc 96 cap).run Tryz.prog w=.ok (.enter 96 cap) w:=by simp [go_sem]

def RRead (w:World) (d:D) (i:Int) (v:Value) (b:Bool) (w':World):Prop:=v=.string (readD d i).1/\b=(readD d i).2/\Ex w w'
def TellsS (w:World) (r:ByteArray × Bool) (e:Ending) (w':World):Prop:=e=.returned (.tuple #[.string r.1,.bool r.2])/\Ex w w'

set_option maxHeartbeats 1000000 in
theorem read_any (v:Value) (d:D) (i:Int) (w:World) (hd:IsD w v d) (ok:d.ok):Calls Tryz.prog 124 #[v,.int .i64 i] w (TellsS w (readD d i)):=by
 have OK:=Lib.hid ok
 have HD:=Lib.hid hd
 obtain ⟨al,cl,aw,cw,rfl,hl,hw⟩:=hd
 clear hl hw ok
 go_enter Tryz.func124,Tryz.ntmps124
 go_wp2_with fail
 generalize hW:(w.alloc _).alloc _=W1
 have hb:BoxD W1 w.heap.size al d.last.length cl aw d.wait.length cw d.arm d.down:=by
  subst hW
  obtain ⟨c0,c1,c2,c3⟩:=box4 (Ex.mk_alloc (w.alloc (.cells #[.slice al d.last.length cl,.slice aw d.wait.length cw,.int .i64 (d.arm:Int),.bool d.down] 29)) (.cells #[.int .i64 i] 3))
  exact ⟨c0,c1,c2,c3⟩
 have hp:W1.cell? ⟨w.heap.size+1,0,none⟩=some (.int .i64 i):=by
  subst hW
  simp
 have hg:Ex w W1:=by subst hW;exact (Ex.mk_alloc _ _).al _
 clear hW
 have hR:Calls Tryz.prog 147 #[.pointer (some ⟨w.heap.size,0,none⟩),.pointer (some ⟨w.heap.size+1,0,none⟩)] W1 (Inner (RRead W1 d i) (.string ⟨#[]⟩)):=by
  by_cases hh:hasB d i=true
  ·obtain ⟨h1,h2,h3⟩:=hasB_yes hh
   obtain ⟨j,rfl⟩:∃ j:Nat,i=(j:Int):=⟨i.toNat,by omega⟩
   refine (read1_yes _ _ al aw cl cw d j W1 hb hp (HD.out.ex hg) OK.out h1 (by omega)).mono ?_
   rintro e w' ⟨rfl,g⟩
   refine ⟨?_,?_,g⟩ <;> simp [readD,hh]
  ·refine (read1_no _ _ al aw cl cw d i W1 hb hp hh).mono ?_
   rintro e w' ⟨u,v,rfl,g⟩
   refine ⟨?_,?_,g⟩ <;> simp [readD,hh] <;> rfl
 have HR:=Lib.hid (orNo_str 147 _ W1 _ (call33 _) hR)
 clear hR hb hp
 refine HR.out.mono ?_
 rintro e w' ⟨v,b,rfl,rfl,rfl,g⟩
 go_wp2_with fail
 go_ret2
 exact ⟨rfl,Ex.trans hg g⟩

end Go.Proofs.YtpnegheknjeljaaGreat.dsk
end
section
/- Contracts of package disk, eleventh part: Write, Flush, Crash. -/
namespace Go.Proofs.YtpnegheknjeljaaGreat.dsk
set_option maxRecDepth 100000
open Go.RowKit

theorem counted_any (al aw:Option Addr) (n cl m cw:Nat) (arm:Nat) (down:Bool) (w:World) (hm:arm<=1000) (hdn:down=false) :
  Calls Tryz.prog 92 #[.agg #[.slice al n cl,.slice aw m cw,.int .i64 (arm:Int),.bool down]] w (Zmv w (.agg #[.slice al n cl,.slice aw m cw,.int .i64 ((arm - 1:Nat):Int),.bool (decide (arm=1))])):=by
 subst hdn
 by_cases h:0 < arm
 ·exact counted_up al aw n cl m cw arm false w h hm
 ·obtain rfl:arm=0:=by omega
  exact counted_no al aw n cl m cw false w

theorem OwnD.armed {base:Nat} {w:World} {a b x y:Value} {d:D} (h:OwnD base w (.agg #[a,b,x,y]) d) (arm:Nat) (down:Bool):OwnD base w (.agg #[a,b,.int .i64 (arm:Int),.bool down]) { d with arm:=arm,down:=down }:=by
 obtain ⟨vl,vw,e,o1,o2⟩:=h
 simp only [Value.agg.injEq,Array.mk.injEq,List.cons.injEq] at e
 obtain ⟨rfl,rfl,_⟩:=e
 exact ⟨_,_,rfl,o1,o2⟩
theorem write_yes {d:D} {i:Nat} {b:ByteArray} (h1:d.down=false) (h2:i < d.last.length) (h3:b.size=32) :
  Zel d i b=({ d with wait:=d.wait++[(i,b)],arm:=d.arm - 1,down:=decide (d.arm=1) },!decide (d.arm=1)):=by
 have hh:hasB d (i:Int)=true:=by simp [hasB,h1];omega
 unfold Zel
 rw [if_pos ⟨hh,h3⟩]
 rfl
theorem write_no {d:D} {i:Int} {b:ByteArray} (h:¬ (hasB d i=true/\b.size=32)):Zel d i b=(d,false):=by
 unfold Zel
 rw [if_neg h]

set_option maxRecDepth 100000 in
set_option maxHeartbeats 1000000 in
theorem write1_yes (q p s:Nat) (al aw:Option Addr) (cl cw:Nat) (d:D) (i:Nat) (b:ByteArray) (w:World) (hb:BoxD w q al d.last.length cl aw d.wait.length cw d.arm d.down) (hp:w.cell? ⟨p,0,none⟩=some (.int .i64 (i:Int))) (hs:w.cell? ⟨s,0,none⟩=some (.string b))
  (hd:IsD w (.agg #[.slice al d.last.length cl,.slice aw d.wait.length cw,.int .i64 (d.arm:Int),.bool d.down]) d) (ok:d.ok) (hdn:d.down=false) (hi:i < d.last.length) (hb32:b.size=32) :
  Calls Tryz.prog 88 #[.pointer (some ⟨q,0,none⟩),.pointer (some ⟨p,0,none⟩),.pointer (some ⟨s,0,none⟩)] w (Zr4 w (Zel d i b).1):=by
 rw [write_yes hdn hi hb32]
 have har:=ok.armed
 have HD:=Lib.hid hd
 have OK:=Lib.hid ok
 have HB:=Lib.hid (hb.ex (Ex.mk_alloc w (.cells #[.slice none 0 0,.slice none 0 0,.int .i64 0,.bool false] 29)))
 have HS:=Lib.hid hb32
 have HN:=Lib.hid hdn
 have HH:=Lib.hid (fun w=>Zim al aw d.last.length cl d.wait.length cw d.arm false (i:Int) w (by simp [inN,hi]))
 rw [hdn] at HD HB
 have lp:p < w.heap.size:=World.block_lt_of_cell? w _ hp
 have ls:s < w.heap.size:=World.block_lt_of_cell? w _ hs
 have lq:q < w.heap.size:=hb.lt
 have hp0:=(Ex.mk_alloc w (.cells #[.slice none 0 0,.slice none 0 0,.int .i64 0,.bool false] 29)).on hp
 have hs0:=(Ex.mk_alloc w (.cells #[.slice none 0 0,.slice none 0 0,.int .i64 0,.bool false] 29)).on hs
 obtain ⟨c0,c1,c2,c3⟩:=HB.out
 clear hd ok hb hdn hi hb32 hp hs
 go_enter Tryz.func88,Tryz.ntmps88
 go_wp2_with fail
 generalize hW:World.alloc w _=W1 at *
 have G0:Ex w W1:=by subst hW;exact Ex.mk_alloc _ _
 have HX:=Lib.hid (fun (wr:World) (g:Ex W1 wr)=>show (wr.cell? ⟨w.heap.size,0,none⟩=some (.slice none 0 0)/\wr.cell? ⟨w.heap.size,1,none⟩=some (.slice none 0 0)/\wr.cell? ⟨w.heap.size,2,none⟩=some (.int .i64 0)/\wr.cell? ⟨w.heap.size,3,none⟩=some (.bool false))/\(∀ i,wr.frozen? ⟨w.heap.size,i,none⟩=false)/\w.heap.size < wr.heap.size by
  subst hW
  exact ⟨box4 g,fun i=>Za3 g i,by have:=g.size;simp at this;omega⟩)
 clear hW
 refine (Zdo _ _ _ _ _ _ _ _).mono ?_
 rintro e w1 ⟨rfl,g1⟩
 obtain ⟨c0,c1,c2,c3⟩:=HB.out.ex g1
 have hp1:=g1.on hp0
 have hs1:=g1.on hs0
 clear hp0 hs0
 go_wp2_with fail
 refine (HH.out _).mono ?_
 rintro e w2 ⟨rfl,g2⟩
 obtain ⟨c0,c1,c2,c3⟩:=HB.out.ex (Ex.trans g1 g2)
 have hp2:=g2.on hp1
 have hs2:=g2.on hs1
 clear hp1 hs1
 go_wp2_with fail
 refine (mustFill_yes b _ HS.out).mono ?_
 rintro e w3 ⟨rfl,rfl⟩
 have G2:=Lib.hid (Ex.trans G0 (Ex.trans g1 g2))
 have G12:=Lib.hid (Ex.trans g1 g2)
 clear g1 g2 G0
 go_wp2_with fail
 refine (waiting_any _ d i b _ (HD.out.ex G2.out) OK.out).mono ?_
 rintro e w4 ⟨u,rfl,ho,g4⟩
 obtain ⟨bl,dl,bw,dw,rfl⟩:=ho.form
 have HO:=Lib.hid (OwnD.mono (base':=w.heap.size+1) ho (HX.out _ G12.out).2.2)
 have G4:=Lib.hid (Ex.trans G2.out g4)
 have G14:=Lib.hid (Ex.trans G12.out g4)
 clear ho g4 c0 c1 c2 c3 hp2 hs2
 go_wp2_with fail
 refine (counted_any _ _ _ _ _ _ d.arm d.down _ har HN.out).mono ?_
 rintro e w5 ⟨rfl,g5⟩
 obtain ⟨⟨r0,r1,r2,r3⟩,rf,-⟩:=HX.out _ (Ex.trans G14.out g5)
 have rf0:=rf 0
 have rf1:=rf 1
 have rf2:=rf 2
 have rf3:=rf 3
 have HO5:=Lib.hid ((HO.out.ex g5).armed (d.arm - 1) (decide (d.arm=1)))
 have G5:=Lib.hid (Ex.trans G4.out g5)
 clear g5 rf
 go_wp2_with fail
 refine bodyPost_ret (v:=.agg #[.slice bl d.last.length dl,.slice bw (d.wait++[(i,b)]).length dw,.int .i64 ((d.arm - 1:Nat):Int),.bool (decide (d.arm=1))]) (by simp [results,Tryz.results88,go_sem,r0,r1,r2,r3]) rfl ⟨_,rfl,OwnD.mono (base:=w.heap.size+1) ?_ (by omega),?_⟩
 ·repeat with_reducible (refine OwnD.st ?_ (by dsimp only;omega) _)
  exact HO5.out
 ·repeat with_reducible (refine Ex.st ?_ (by dsimp only;omega) _)
  exact G5.out

end Go.Proofs.YtpnegheknjeljaaGreat.dsk
end
