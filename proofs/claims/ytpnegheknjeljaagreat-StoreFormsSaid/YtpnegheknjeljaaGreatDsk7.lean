/- Texts joined. -/
import Derived.Test.YtpnegheknjeljaaGreatDsk5
import Derived.Test.YtpnegheknjeljaaGreatRowF
import Derived.Deep.CutBlock
import Derived.Test.YtpnegheknjeljaaGreatDsk4
section
/- Contracts of package disk, sixth part: counted, waiting. -/
namespace Go.Proofs.YtpnegheknjeljaaGreat.dsk
set_option maxRecDepth 100000
open Go.RowKit

theorem counted_up (al aw:Option Addr) (n cl m cw:Nat) (arm:Nat) (down:Bool) (w:World) (h:0 < arm) (hm:arm<=1000) :
  Calls Tryz.prog 92 #[.agg #[.slice al n cl,.slice aw m cw,.int .i64 (arm:Int),.bool down]] w (Zmv w (.agg #[.slice al n cl,.slice aw m cw,.int .i64 ((arm - 1:Nat):Int),.bool (decide (arm=1))])):=by
 obtain ⟨k,rfl⟩:∃ k,arm=k+1:=⟨arm - 1,by omega⟩
 rw [show (((k+1:Nat):Int))=(k:Int)+1 by omega,show k+1 - 1=k by omega,show decide (k+1=1)=decide (k=0) by congr 1;simp]
 have h1:(0:Int) < (k:Int)+1:=by omega
 have hb:decide (k=0)=((k:Int) == 0):=by
  rw [Bool.eq_iff_iff];simp
 rw [hb]
 clear hb
 go_enter Tryz.func92,Tryz.ntmps92
 go_wp2_with fail
 exact bodyPost_ret (v:=.agg #[.slice al n cl,.slice aw m cw,.int .i64 (k:Int),.bool ((k:Int) == 0)]) (by simp [results,Tryz.results92,go_sem]) rfl ⟨rfl,(Ex.mk_alloc _ _).al _⟩

theorem counted_no (al aw:Option Addr) (n cl m cw:Nat) (down:Bool) (w:World) :
  Calls Tryz.prog 92 #[.agg #[.slice al n cl,.slice aw m cw,.int .i64 0,.bool down]] w (Zmv w (.agg #[.slice al n cl,.slice aw m cw,.int .i64 0,.bool down])):=by
 go_enter Tryz.func92,Tryz.ntmps92
 go_wp2_with fail
 exact bodyPost_ret (v:=.agg #[.slice al n cl,.slice aw m cw,.int .i64 0,.bool down]) (by simp [results,Tryz.results92,go_sem]) rfl ⟨rfl,(Ex.mk_alloc _ _).al _⟩

theorem info_put:(Tryz.prog.info? 77).map (fun i=>(i.zero,i.size,i.bytes))=some (some (.agg #[.int .i64 0,.string ⟨#[]⟩]),2,24):=by kernel_rfl

set_option maxRecDepth 100000 in
set_option maxHeartbeats 1000000 in
theorem waiting_any (v : Value) (d : D) (i : Nat) (b : ByteArray) (w : World) (hd : IsD w v d) (ok : d.ok) :
    Calls Tryz.prog 93 #[v, .agg #[.int .i64 (i : Int), .string b]] w fun e w' => ∃ u, e = .returned u /\ OwnD w.heap.size w' u { d with wait := d.wait ++ [(i, b)] } /\ Ex w w' := by
  have OK := Lib.hid ok
  have hn := ok.n
  have hm := ok.many
  have HD := Lib.hid hd
  obtain ⟨al, cl, aw, cw, rfl, hl, hw⟩ := hd
  clear hl hw ok
  obtain ⟨I0, hI, hZ0, hZ1, hZ2⟩ := info_parts info_put
  go_enter Tryz.func93, Tryz.ntmps93
  go_wp2_with fail
  refine (same_any _ d _ (HD.out.ex (((Ex.mk_alloc _ _).al _).al _)) OK.out).mono ?_
  rintro e w1 ⟨u, rfl, ⟨vl, vw, rfl, o1, o2⟩, g1⟩
  obtain ⟨xl, yl, rfl, z1, z2⟩ := (RowE.of_own (E := encS) o1).1.len
  obtain ⟨xw, yw, rfl, z3, z4⟩ := (RowE.of_own (E := encP) o2).1.len
  clear z1 z2 z3 z4
  have HB := Lib.hid (box3 g1)
  have hz : w.heap.size + 3 <= w1.heap.size := by have := g1.size; simp at this; omega
  have O1 : Hid (w1.ownsRow (w.heap.size + 3) 9 1 _ _ _) := Lib.hid (Zb8 o1 (by simp))
  have O2 : Hid (w1.ownsRow (w.heap.size + 3) 77 2 _ _ _) := Lib.hid (Zb8 o2 (by simp))
  have G1 := Lib.hid (Ex.trans (((Ex.mk_alloc w _).al _).al _) g1)
  clear o1 o2 g1
  obtain ⟨c, f, c2, f2, c3, f3⟩ := HB.out
  have c0 : w1.cell? ⟨w.heap.size, 0, none⟩ = some (.slice al d.last.length cl) := c 0 _ rfl
  have c1 : w1.cell? ⟨w.heap.size, 1, none⟩ = some (.slice aw d.wait.length cw) := c 1 _ rfl
  have c2' : w1.cell? ⟨w.heap.size, 2, none⟩ = some (.int .i64 (d.arm : Int)) := c 2 _ rfl
  have c3' : w1.cell? ⟨w.heap.size, 3, none⟩ = some (.bool d.down) := c 3 _ rfl
  have f0 := f 0
  have f1 := f 1
  have f2' := f 2
  have f3' := f 3
  have p0 : w1.cell? ⟨w.heap.size + 1, 0, none⟩ = some (.int .i64 (i : Int)) := c2 0 _ rfl
  have p1 : w1.cell? ⟨w.heap.size + 1, 1, none⟩ = some (.string b) := c2 1 _ rfl
  have r0 : w1.cell? ⟨w.heap.size + 1 + 1, 0, none⟩ = some (.slice none 0 0) := c3 0 _ rfl
  have r1 : w1.cell? ⟨w.heap.size + 1 + 1, 1, none⟩ = some (.slice none 0 0) := c3 1 _ rfl
  have r2 : w1.cell? ⟨w.heap.size + 1 + 1, 2, none⟩ = some (.int .i64 0) := c3 2 _ rfl
  have r3 : w1.cell? ⟨w.heap.size + 1 + 1, 3, none⟩ = some (.bool false) := c3 3 _ rfl
  have s0 := f3 0
  have s1 := f3 1
  have s2 := f3 2
  have s3 := f3 3
  clear c f c2 f2 c3 f3
  go_upto_region 2 with (fail)
  generalize hW : (((World.setCell w1 _ _).setCell _ _).setCell _ _).setCell _ _ = W2
  obtain ⟨⟨k0, k1, k2, k3⟩, ko, kf, kz, kg, kn⟩ := set4 hW c0 c1 c2' c3'
  rw [<- ko _ _ (by omega)] at p0 p1 r0 r1 r2 r3
  rw [<- kf] at f0 f1 f2' f3' s0 s1 s2 s3
  have hz2 : w.heap.size + 3 <= W2.heap.size := by omega
  have P1 := Lib.hid (kn _ _ _ _ _ _ O1.out (by omega))
  have P2 := Lib.hid (kn _ _ _ _ _ _ O2.out (by omega))
  have GW := Lib.hid (kg w G1.out (Nat.le_refl _))
  have hz0 : w.heap.size < W2.heap.size := by omega
  have hz1 : w.heap.size + 1 < W2.heap.size := by omega
  have hz22 : w.heap.size + 1 + 1 < W2.heap.size := by omega
  clear hW ko kf kz kg kn c0 c1 c2' c3' O1 O2 G1 HB hz
  go_wp2_with (first
    | (at_builtin
       refine wpList_append_rowG _ rfl encP (.tmp 8) (.tmp 10) 27 rfl (w.heap.size + 3) 77 I0 (.agg #[.int .i64 0, .string ⟨#[]⟩]) 2 24 Tryz.underlying27 hI hZ0 hZ1 hZ2 rfl rfl _ d.wait.length (encP.all d.wait) rfl (P2.out.alloc _) _ [(i, b)] rfl (RowE.lit_at encP _ [(i, b)] _ 1 _ rfl rfl (by simp [maxLen]) _ rfl) ?c1 ?c2 W2 (Below.alloc (Below.refl _ _) (by omega) _) ?c3 ?_
       rotate_right
       intro v' w3 hown' gb gg
       have hP1 := (P1.out.alloc (.cells #[.int .i64 (i : Int), .string b] 77)).kept gg (own_ne (P1.out.alloc (.cells #[.int .i64 (i : Int), .string b] 77)) (P2.out.alloc (.cells #[.int .i64 (i : Int), .string b] 77)) (by decide))
       have HP := Lib.hid hP1
       clear gg hP1
       rw [<- encP.all_append] at hown'
       obtain ⟨va, vc, rfl, z1, z2⟩ := (RowE.of_own (E := encP) hown').1.len
       rw [List.length_append, show [(i, b)].length = 1 from rfl] at hown'
       clear z1 z2
       have m0 := (gb.cell (p := ⟨w.heap.size, 0, none⟩) (by show w.heap.size < _; omega)).trans k0
       have m1 := (gb.cell (p := ⟨w.heap.size, 1, none⟩) (by show w.heap.size < _; omega)).trans k1
       have m2 := (gb.cell (p := ⟨w.heap.size, 2, none⟩) (by show w.heap.size < _; omega)).trans k2
       have m3 := (gb.cell (p := ⟨w.heap.size, 3, none⟩) (by show w.heap.size < _; omega)).trans k3
       have n1 := (gb.frozen (p := ⟨w.heap.size, 1, none⟩) (by show w.heap.size < _; omega)).trans f1
       have t0 := (gb.cell (p := ⟨w.heap.size + 1 + 1, 0, none⟩) (by show w.heap.size + 1 + 1 < _; omega)).trans r0
       have t1 := (gb.cell (p := ⟨w.heap.size + 1 + 1, 1, none⟩) (by show w.heap.size + 1 + 1 < _; omega)).trans r1
       have t2 := (gb.cell (p := ⟨w.heap.size + 1 + 1, 2, none⟩) (by show w.heap.size + 1 + 1 < _; omega)).trans r2
       have t3 := (gb.cell (p := ⟨w.heap.size + 1 + 1, 3, none⟩) (by show w.heap.size + 1 + 1 < _; omega)).trans r3
       have o0 := (gb.frozen (p := ⟨w.heap.size + 1 + 1, 0, none⟩) (by show w.heap.size + 1 + 1 < _; omega)).trans s0
       have o1 := (gb.frozen (p := ⟨w.heap.size + 1 + 1, 1, none⟩) (by show w.heap.size + 1 + 1 < _; omega)).trans s1
       have o2 := (gb.frozen (p := ⟨w.heap.size + 1 + 1, 2, none⟩) (by show w.heap.size + 1 + 1 < _; omega)).trans s2
       have o3 := (gb.frozen (p := ⟨w.heap.size + 1 + 1, 3, none⟩) (by show w.heap.size + 1 + 1 < _; omega)).trans s3
       have HO := Lib.hid hown'
       have HG := Lib.hid gb
       clear hown' gb))
  case c1 => simp only [List.length_cons, List.length_nil]; unfold maxLen; omega
  case c2 => simp only [List.length_cons, List.length_nil]; omega
  case c3 => simp; omega
  refine bodyPost_ret (v := .agg #[.slice xl d.last.length yl, .slice va (d.wait.length + 1) vc, .int .i64 (d.arm : Int), .bool d.down]) (by simp [results, Tryz.results93, go_sem, t0, t1, t2, t3]) rfl ⟨_, rfl, ?_, ?_⟩
  · refine ⟨_, _, rfl, Zb8 (base := w.heap.size + 3) ?_ (by omega), Zb8 (base := w.heap.size + 3) ?_ (by omega)⟩
    · repeat (refine ownsRow_setCell_below ?_ (by dsimp only; omega) _)
      exact HP.out
    · rw [List.length_append, show [(i, b)].length = 1 from rfl]
      repeat (refine ownsRow_setCell_below ?_ (by dsimp only; omega) _)
      exact HO.out
  · have hg3 : Ex w w3 := Below.trans GW.out (HG.out.mono (by omega))
    repeat (first | (with_reducible exact hg3) | refine Ex.st ?_ (by dsimp only; omega) _)

end Go.Proofs.YtpnegheknjeljaaGreat.dsk
end
section
/- Contracts of package disk, seventh part: what is guarded, and reading. -/
namespace Go.Proofs.YtpnegheknjeljaaGreat.dsk
set_option maxRecDepth 100000
open Go.RowKit

theorem OwnD.form {base:Nat} {w:World} {v:Value} {d:D} (h:OwnD base w v d):∃ al cl aw cw,v=.agg #[.slice al d.last.length cl,.slice aw d.wait.length cw,.int .i64 (d.arm:Int),.bool d.down]:=by
 obtain ⟨vl,vw,rfl,h1,h2⟩:=h
 obtain ⟨al,cl,rfl,_,_⟩:=(RowE.of_own (E:=encS) h1).1.len
 obtain ⟨aw,cw,rfl,_,_⟩:=(RowE.of_own (E:=encP) h2).1.len
 exact ⟨al,cl,aw,cw,rfl⟩
theorem OwnD.ex {base:Nat} {w w':World} {v:Value} {d:D} (h:OwnD base w v d) (g:Ex w w'):OwnD base w' v d:=by
 obtain ⟨vl,vw,rfl,h1,h2⟩:=h
 exact ⟨vl,vw,rfl,Zod h1 g,Zod h2 g⟩
theorem OwnD.mono {base base':Nat} {w:World} {v:Value} {d:D} (h:OwnD base w v d) (hb:base'<=base):OwnD base' w v d:=by
 obtain ⟨vl,vw,rfl,h1,h2⟩:=h
 exact ⟨vl,vw,rfl,Zb8 h1 hb,Zb8 h2 hb⟩
theorem OwnD.st {base:Nat} {w:World} {v:Value} {d:D} (h:OwnD base w v d) {p:Addr} (hp:p.block < base) (u:Value):OwnD base (w.setCell p u) v d:=by
 obtain ⟨vl,vw,rfl,h1,h2⟩:=h
 exact ⟨vl,vw,rfl,ownsRow_setCell_below h1 hp u,ownsRow_setCell_below h2 hp u⟩

def Inner (R:Value->Bool->World->Prop) (zero:Value) (e:Ending) (w':World):Prop :=
 match e with
 | .returned v=>R v true w'
 | .panicked [{ v:=.iface _ _,recovered:=false,goexit:=false }]=>R zero false w'
 | _=>False
def Outer (R:Value->Bool->World->Prop) (e:Ending) (w':World):Prop:=∃ v b,e=.returned (.tuple #[v,.bool b])/\R v b w'

theorem rec_panic_str (u:TypeId) (pv:Value) (older:List PanicEntry) (w:World) :
  CallsD Tryz.prog 162 #[] (.panicking ({ v:=.iface u pv,recovered:=false } :: older)) w fun e u' w' =>
   e=.returned (.tuple #[])/\u'=.panicking ({ v:=.iface u pv,recovered:=true } :: older)/\w'=w:=by
 refine callsD_of_wpS Tryz.func162 rfl fun c₀ cs hu=>?_
 apply wpS_region
 simp [wpOpsS,go_sem,recoverD,hu,Tryz.ntmps162,bodyPostS,results,Tryz.results162]
theorem rec_idle_str (w:World) :
  CallsD Tryz.prog 162 #[] .returning w fun e u' w'=>e=.returned (.tuple #[])/\u'=.returning/\w'=w:=by
 refine callsD_of_wpS Tryz.func162 rfl fun c₀ cs hu=>?_
 apply wpS_region
 simp [wpOpsS,go_sem,recoverD,hu,Tryz.ntmps162,bodyPostS,results,Tryz.results162]
 cases c₀
 simp_all
theorem rec_panic_disk (u:TypeId) (pv:Value) (older:List PanicEntry) (w:World) :
  CallsD Tryz.prog 150 #[] (.panicking ({ v:=.iface u pv,recovered:=false } :: older)) w fun e u' w' =>
   e=.returned (.tuple #[])/\u'=.panicking ({ v:=.iface u pv,recovered:=true } :: older)/\w'=w:=by
 refine callsD_of_wpS Tryz.func150 rfl fun c₀ cs hu=>?_
 apply wpS_region
 simp [wpOpsS,go_sem,recoverD,hu,Tryz.ntmps150,bodyPostS,results,Tryz.results150]
theorem rec_idle_disk (w:World) :
  CallsD Tryz.prog 150 #[] .returning w fun e u' w'=>e=.returned (.tuple #[])/\u'=.returning/\w'=w:=by
 refine callsD_of_wpS Tryz.func150 rfl fun c₀ cs hu=>?_
 apply wpS_region
 simp [wpOpsS,go_sem,recoverD,hu,Tryz.ntmps150,bodyPostS,results,Tryz.results150]
 cases c₀
 simp_all

theorem orNo_str (fid:FuncId) (cap:Array Value) (w:World) (R:Value->Bool->World->Prop) (hc:∀ w,(callFunc fid cap).run Tryz.prog w=.ok (.enter fid cap) w)
  (h:Calls Tryz.prog fid cap w (Inner R (.string ⟨#[]⟩))) :
  Calls Tryz.prog 146 #[.func (.func fid) #[] cap] w (Outer R):=by
 have H:=Lib.hid h
 clear h
 go_enter_defers Tryz.func146,Tryz.ntmps146
 go_wp2_with fail
 refine H.out.mono ?_
 intro e w' he
 unfold Inner at he
 split at he
 ·go_wp2_with fail
  refine leaves_cons (f:=162) (args:=#[]) (by simp) (by simp [go_sem]) ?_
  refine (rec_idle_str _).mono ?_
  rintro e u' w'' ⟨rfl,rfl,rfl⟩
  simp [Leaves,settle,results,Tryz.results146,go_sem,Outer]
  exact he
 ·refine leaves_cons (f:=162) (args:=#[]) (by simp) (by simp [go_sem]) ?_
  refine (rec_panic_str _ _ _ _).mono ?_
  rintro e u' w'' ⟨rfl,rfl,rfl⟩
  simp [Leaves,settle,results,Tryz.results146,go_sem,Outer]
  exact he
 ·exact he.elim

def Zero:Value:=.agg #[.slice none 0 0,.slice none 0 0,.int .i64 0,.bool false]
def Zr4 (w:World) (d:D) (e:Ending) (w':World):Prop:=∃ v,e=.returned v/\OwnD w.heap.size w' v d/\Ex w w'
def Zk9 (w:World) (d:D) (b:Bool) (e:Ending) (w':World):Prop:=∃ v,e=.returned (.tuple #[v,.bool b])/\OwnD w.heap.size w' v d/\Ex w w'
def TellsNo (w:World) (e:Ending) (w':World):Prop:=e=.returned (.tuple #[Zero,.bool false])/\Ex w w'

theorem orNo_disk_ok (fid:FuncId) (cap:Array Value) (w:World) (d:D) (hc:∀ w,(callFunc fid cap).run Tryz.prog w=.ok (.enter fid cap) w)
  (h:∀ w1,Ex w w1->Calls Tryz.prog fid cap w1 (Zr4 w1 d)) :
  Calls Tryz.prog 128 #[.func (.func fid) #[] cap] w (Zk9 w d true):=by
 have H:=Lib.hid h
 clear h
 go_enter_defers Tryz.func128,Tryz.ntmps128
 go_wp2_with fail
 refine (H.out _ (Ex.mk_alloc _ _)).mono ?_
 rintro e w' ⟨v,rfl,ho,g⟩
 have G:=Lib.hid (Ex.trans (Ex.mk_alloc _ _) g)
 have HO:=Lib.hid ho
 obtain ⟨al,cl,aw,cw,rfl⟩:=ho.form
 obtain ⟨c0,c1,c2,c3⟩:=box4 g
 have f0:=Za3 g 0
 have f1:=Za3 g 1
 have f2:=Za3 g 2
 have f3:=Za3 g 3
 clear ho g
 go_wp2_with fail
 refine leaves_cons (f:=150) (args:=#[]) (by simp) (by simp [go_sem]) ?_
 refine (rec_idle_disk _).mono ?_
 rintro e u' w'' ⟨rfl,rfl,rfl⟩
 simp [Leaves,settle,results,Tryz.results128,go_sem,c0,c1,c2,c3]
 refine ⟨_,rfl,OwnD.mono (base:=(w.alloc (.cells #[.slice none 0 0,.slice none 0 0,.int .i64 0,.bool false] 29)).heap.size) ?_ (by simp),?_⟩
 ·repeat (refine OwnD.st ?_ (by simp) _)
  exact HO.out
 ·repeat (refine Ex.st ?_ (by simp) _)
  exact G.out

theorem orNo_disk_no (fid:FuncId) (cap:Array Value) (w:World) (hc:∀ w,(callFunc fid cap).run Tryz.prog w=.ok (.enter fid cap) w)
  (h:∀ w1,Ex w w1->Calls Tryz.prog fid cap w1 (BoomE w1)) :
  Calls Tryz.prog 128 #[.func (.func fid) #[] cap] w (TellsNo w):=by
 have H:=Lib.hid h
 clear h
 go_enter_defers Tryz.func128,Tryz.ntmps128
 go_wp2_with fail
 refine (H.out _ (Ex.mk_alloc _ _)).mono ?_
 rintro e w' ⟨u,v,rfl,g⟩
 have G:=Lib.hid (Ex.trans (Ex.mk_alloc _ _) g)
 obtain ⟨c0,c1,c2,c3⟩:=box4 g
 clear g
 refine leaves_cons (f:=150) (args:=#[]) (by simp) (by simp [go_sem]) ?_
 refine (rec_panic_disk _ _ _ _).mono ?_
 rintro e u' w'' ⟨rfl,rfl,rfl⟩
 simp [Leaves,settle,results,Tryz.results128,go_sem,c0,c1,c2,c3]
 exact ⟨rfl,G.out⟩

end Go.Proofs.YtpnegheknjeljaaGreat.dsk
end
