/- Contracts of package disk, fourth part: slices.Backward and latest. -/
import Derived.Test.YtpnegheknjeljaaGreatDsk2
import Derived.RangeFuncNested
import Derived.RangeFuncBound
import Derived.RangeFuncCalls
import Derived.RangeFuncLeaves
import Derived.RangeFuncBox
import Derived.Shelf.Abstract
import Derived.Shelf.RegionOpen
import Derived.OwnWalkIn
import Derived.TacticsInMore
import Derived.LoopNIn
import Derived.LoopIn
namespace Go.Proofs.YtpnegheknjeljaaGreat.dsk
set_option maxRecDepth 100000
open Go.RowKit Go.Shelf
attribute [local go_sem] Oper.semAt_some

def back (ps:List (Nat × ByteArray)) (k:Nat):List (Nat × (Nat × ByteArray)):=(List.range k).map fun j=>(ps.length - 1 - j,ps.getD (ps.length - 1 - j) nop)
theorem Znx (ps:List (Nat × ByteArray)) (k:Nat):back ps (k+1)=back ps k++[(ps.length - 1 - k,ps.getD (ps.length - 1 - k) nop)]:=by simp [back,List.range_succ]
theorem back_length (ps:List (Nat × ByteArray)) (k:Nat):(back ps k).length=k:=by simp [back]
def encsB (x:Nat × (Nat × ByteArray)):Array Value:=#[.int .i64 (x.1:Int),.agg #[.int .i64 (x.2.1:Int),.string x.2.2]]

set_option maxRecDepth 100000 in
set_option maxHeartbeats 2000000 in
theorem back1_in (F:Fence) (n:Nat) (h7:F.fn 176) (hro:F.round=none) (hn:1<=n) (l Bs n₀ b off cap:Nat) (ps:List (Nat × ByteArray)) (hm:ps.length<=1000) (hb:b < n₀) (J Jx:List (Nat × (Nat × ByteArray))->World->Prop)
  (hY:∀ pre x W,J pre W->pre.length < ps.length->YieldAt F (n - 1) Tryz.prog l (encsB x) W fun e W' =>
   (e=.returned (.bool true)/\J (pre++[x]) W'/\Below n₀ W W') \/ (e=.returned (.bool false)/\Jx (pre++[x]) W'))
  (W:World) (hBs:∀ W',Below n₀ W W'->W'.cell? ⟨Bs,0,none⟩=some (.slice (some ⟨b,off,none⟩) ps.length cap))
  (hc:∀ j,j < ps.length->W.cell? ⟨b,off+j * 2,none⟩=some (.int .i64 ((ps.getD j nop).1:Int))/\W.cell? ⟨b,off+j * 2+1,none⟩=some (.string (ps.getD j nop).2)) (h0:J [] W) :
  CallsIn F n Tryz.prog 176 #[.func (.yield l) #[] #[],.pointer (some ⟨Bs,0,none⟩)] W fun e W'=>(∃ v,e=.returned v) ∧
   ((∃ ys,ys=back ps ps.length/\J ys W') \/ (∃ pre,(∃ k,k<=ps.length/\pre=back ps k)/\Jx pre W')):=by
 have HBs:=Lib.hid hBs
 have HC:=Lib.hid hc
 have HY:=Lib.hid hY
 clear hBs hc hY
 have hB0:=HBs.out W (Below.refl _ _)
 refine callsIn_of_wp Tryz.func176 rfl h7 ?_ hro
 simp only [Tryz.ntmps176,List.size_toArray,List.length_cons,List.length_nil,Nat.reduceAdd,Nat.reduceSub,Array.replicate_succ,Array.replicate_zero,List.push_toArray,List.append_toArray,List.nil_append,List.cons_append]
 gi_wp2
 clear hB0
 gi_loopw [3] (fun i wr=>∃ k:Nat,k<=ps.length/\i=.int .i64 ((ps.length:Int) - 1 - k)/\J (back ps k) wr/\Below n₀ W wr)
  (fun i _=>(intOf i+1).toNat)
 case atStart=>exact ⟨0,Nat.zero_le _,by simp,h0,Below.refl _ _⟩
 case round =>
  obtain ⟨k,hk,rfl,hJs,hnx⟩:=hrel
  by_cases hlt:k < ps.length
  ·obtain ⟨fn,tmps,assign,body,hy,hR⟩:=HY.out _ (ps.length - 1 - k,ps.getD (ps.length - 1 - k) nop) wr hJs (by rw [back_length];exact hlt)
   simp only [encsB] at hy
   obtain ⟨e0,e1⟩:=HC.out (ps.length - 1 - k) (by omega)
   have f0:=(hnx.cell (p:=⟨b,off+(ps.length - 1 - k) * 2,none⟩) hb).trans e0
   have f1:=(hnx.cell (p:=⟨b,off+(ps.length - 1 - k) * 2+1,none⟩) hb).trans e1
   have hB1:=HBs.out wr hnx
   obtain ⟨m,hm⟩:∃ m:Nat,m=ps.length - 1 - k:=⟨_,rfl⟩
   have hmi:(ps.length:Int) - 1 - (k:Int)=(m:Int):=by omega
   rw [<- hm] at f0 f1 hy hR
   rw [hmi]
   have hm1:(m:Int) < (ps.length:Int):=by omega
   have hm0:(0:Int)<=(m:Int):=by omega
   have HM:=Lib.hid hm
   have HI:=Lib.hid hmi
   have HS:=Lib.hid (Znx ps k)
   rw [<- hm] at HS
   clear e0 e1 hm hmi
   generalize ps.getD m nop=p at *
   obtain ⟨pi,pb⟩:=p
   simp only at f0 f1 hy hR
   gi_wp2
   refine hR.mono ?_
   rintro e W3 (⟨rfl,hJ3,hk3⟩ | ⟨rfl,hJx3⟩)
   ·gi_wp2
    go_roundw
    case rel=>exact ⟨k+1,by omega,vint (by have:=HI.out;omega),by rw [HS.out];exact hJ3,hnx.trans hk3⟩
    case measure=>simp [intOf]
   ·gi_wp2
    refine bodyPost_ret (results_none rfl _ _ _) rfl ?_
    exact ⟨⟨_,rfl⟩,.inr ⟨_,⟨k+1,by omega,HS.out.symm⟩,hJx3⟩⟩
  ·obtain rfl:k=ps.length:=by omega
   rw [show ((ps.length:Int) - 1 - (ps.length:Int))=-1 by omega]
   gi_wp2
   go_end0
   exact ⟨⟨_,rfl⟩,.inl ⟨_,rfl,hJs⟩⟩

set_option maxRecDepth 100000 in
set_option maxHeartbeats 1000000 in
theorem back1_nil_in (F:Fence) (n:Nat) (h7:F.fn 176) (hro:F.round=none) (l Bs cap:Nat) (a:Option Addr) (J:List (Nat × (Nat × ByteArray))->World->Prop) (W:World) (hBs:W.cell? ⟨Bs,0,none⟩=some (.slice a 0 cap)) (h0:J [] W) :
  CallsIn F n Tryz.prog 176 #[.func (.yield l) #[] #[],.pointer (some ⟨Bs,0,none⟩)] W fun e W'=>(∃ v,e=.returned v)/\J [] W':=by
 refine callsIn_of_wp Tryz.func176 rfl h7 ?_ hro
 simp only [Tryz.ntmps176,List.size_toArray,List.length_cons,List.length_nil,Nat.reduceAdd,Nat.reduceSub,Array.replicate_succ,Array.replicate_zero,List.push_toArray,List.append_toArray,List.nil_append,List.cons_append]
 gi_wp2
 gi_loopw [3] (fun i wr=>i=.int .i64 (-1)/\J [] wr) (fun _ _=>0)
 case atStart=>exact ⟨by simp,h0⟩
 case round =>
  obtain ⟨rfl,hJs⟩:=hrel
  gi_wp2
  go_end0
  exact ⟨⟨_,rfl⟩,hJs⟩

set_option maxHeartbeats 1000000 in
theorem back_in (F:Fence) (n:Nat) (h5:F.fn 163) (hro:F.round=none) (a:Option Addr) (len cap:Nat) (w:World) :
  CallsIn F n Tryz.prog 163 #[.slice a len cap] w fun e w'=>e=.returned (.func (.func 176) #[] #[.pointer (some ⟨w.heap.size,0,none⟩)])/\w'=w.alloc (.cells #[.slice a len cap] 27):=by
 refine callsIn_of_wp Tryz.func163 rfl h5 ?_ hro
 simp only [Tryz.ntmps163,List.size_toArray,List.length_cons,List.length_nil,Nat.reduceAdd,Nat.reduceSub,Array.replicate_succ,Array.replicate_zero,List.push_toArray,List.append_toArray,List.nil_append,List.cons_append]
 gi_wp2
 go_ret
 exact ⟨rfl,rfl⟩

theorem back_stops (F:Fence) (n:Nat) (h7:F.fn 176) (hro:F.round=none) (hn:1<=n) (Bs n₀:Nat) (v:Value) (ps:List (Nat × ByteArray)) (hm:ps.length<=1000) (w:World) (hBs:Bs < n₀) (hn₀:n₀=w.heap.size)
  (hc:w.cell? ⟨Bs,0,none⟩=some v) (hr:RowE encP w v ps) :
  SeqStopsK F n Tryz.prog 176 #[.pointer (some ⟨Bs,0,none⟩)] encsB (Below n₀) (fun ys=>ys=back ps ps.length) (fun pre=>∃ k,k<=ps.length/\pre=back ps k) ps.length w:=fun l J Jx W hW _ _ hY h0=>by
 subst hn₀
 obtain ⟨a,cap,rfl,h1,h2⟩:=hr.len
 rcases Nat.eq_zero_or_pos ps.length with hz | hp
 ·have hc':=(hW.cell (p:=⟨Bs,0,none⟩) hBs).trans hc
  have hps:ps=[]:=List.eq_nil_of_length_eq_zero hz
  subst hps
  exact (back1_nil_in F n h7 hro l Bs cap a J W hc' h0).mono fun e W' ⟨he,hj⟩=>⟨he,.inl ⟨_,rfl,hj⟩⟩
 ·obtain ⟨b,off,rfl,hb⟩:=hr.addr hp
  refine back1_in F n h7 hro hn l Bs w.heap.size b off cap ps hm hb J Jx hY W (fun W' hW'=>(Below.cell (Below.trans hW hW') (p:=⟨Bs,0,none⟩) hBs).trans hc) (fun j hj=>?_) h0
  have hx:ps[j]?=some (ps.getD j nop):=by simp [List.getD,hj]
  have e0:=hr.at (j:=0) hx rfl
  have e1:=hr.at (j:=1) hx rfl
  simp only [encP,Nat.add_zero] at e0 e1
  rw [<- Nat.add_assoc] at e1
  exact ⟨(Ex.on hW e0),(Ex.on hW e1)⟩

theorem lat_skip (i:Nat) (s0:ByteArray) (ps:List (Nat × ByteArray)) (k:Nat) (hk:k<=ps.length) (h:∀ x ∈ back ps k,x.2.1 ≠ i):latK i s0 ps ps.length=latK i s0 ps (ps.length - k):=by
 induction k with
 | zero=>rfl
 | succ k ih =>
  rw [Znx] at h
  rw [ih (by omega) fun x hx=>h x (List.mem_append_left _ hx)]
  have hl:=h _ (List.mem_append_right _ (List.mem_singleton.2 rfl))
  rw [show ps.length - k=(ps.length - 1 - k)+1 by omega,latK,if_neg hl,show ps.length - (k+1)=ps.length - 1 - k by omega]
theorem lat_none (d:D) (i:Nat) (h:∀ x ∈ back d.wait d.wait.length,x.2.1 ≠ i):latest d i=d.last.getD i ByteArray.empty:=by
 unfold latest
 rw [lat_skip i _ _ _ (Nat.le_refl _) h,Nat.sub_self]
 rfl
theorem lat_some (d:D) (i k:Nat) (pre:List (Nat × (Nat × ByteArray))) (x:Nat × (Nat × ByteArray)) (hk:k<=d.wait.length) (he:pre++[x]=back d.wait k) (h:∀ y ∈ pre,y.2.1 ≠ i) (hx:x.2.1=i):latest d i=x.2.2:=by
 cases k with
 | zero=>simp [back] at he
 | succ k =>
  rw [Znx] at he
  obtain ⟨e1,e2⟩:=List.append_inj' he rfl
  simp only [List.cons.injEq,and_true] at e2
  subst e1
  subst e2
  unfold latest
  rw [lat_skip i _ _ k (by omega) h,show d.wait.length - k=(d.wait.length - 1 - k)+1 by omega,latK,if_pos hx]

def Box2 (W:World) (B:Nat) (t:TypeId) (u v:Value):Prop:=W.heap[B]?=some (.cells #[u,v] t (0,0))
theorem Box2.cell0 {W:World} {B:Nat} {t:TypeId} {u v:Value} (h:Box2 W B t u v):W.cell? ⟨B,0,none⟩=some u:=by simp [World.cell?,show W.heap[B]?=_ from h]
theorem Box2.cell1 {W:World} {B:Nat} {t:TypeId} {u v:Value} (h:Box2 W B t u v):W.cell? ⟨B,1,none⟩=some v:=by simp [World.cell?,show W.heap[B]?=_ from h]
theorem Box2.kept {W W':World} {row:Option Nat} {B:Nat} {t:TypeId} {u v:Value} (h:Box2 W B t u v) (hg:W.grownBy W' row) (hne:some B ≠ row):Box2 W' B t u v:=(hg.block B (Array.getElem?_eq_some_iff.1 h).1 hne).trans h
theorem box2_own {β:Type} (B:Nat) (t:TypeId) (u v:Value):Own (fun (_:β) W=>Box2 W B t u v):=fun s X Y row hs hg hrow =>
 hs.kept hg (fun e'=>by obtain ⟨o,ho,hc⟩:=hrow B e'.symm;rw [show X.heap[B]?=_ from hs] at ho;cases ho;cases hc)
theorem own_pure {β:Type} {B:Nat} (f:β->Prop):OwnFrom B (fun s (_:World)=>f s):=fun _ _ _ _ hs _ _=>hs

set_option maxRecDepth 100000 in
set_option maxHeartbeats 2000000 in
theorem latest_in (F:Fence) (n:Nat) (h35:F.fn 148) (h54:F.fn 163) (h63:F.fn 176) (hro:F.round=none) (hn:6<=n) (v:Value) (d:D) (i:Nat) (w:World) (hd:IsD w v d) (ok:d.ok) (hi:i < d.last.length) :
  CallsIn F n Tryz.prog 148 #[v,.int .i64 (i:Int)] w fun e w'=>e=.returned (.string (latest d i))/\Ex w w':=by
 obtain ⟨al,cl,aw,cw,rfl,hl,hw⟩:=hd
 have HL:=Lib.hid hl
 have HW:=Lib.hid hw
 have hm:=ok.many
 clear hl hw ok
 have h1:1<=n:=by omega
 refine callsIn_of_wp_marks Tryz.func148 rfl h35 ?_ hro
 simp only [Tryz.ntmps148,List.size_toArray,List.length_cons,List.length_nil,Nat.reduceAdd,Nat.reduceSub,Array.replicate_succ,Array.replicate_zero,List.push_toArray,List.append_toArray,List.nil_append,List.cons_append]
 gi_wp2_with (gi_at_call 163;refine (back_in F (n - 1) h54 hro _ _ _ _).mono ?_;rintro e w' ⟨rfl,rfl⟩)
 have bI:=((Boxed.new (w.alloc (.cells #[.slice al d.last.length cl,.slice aw d.wait.length cw,.int .i64 (d.arm:Int),.bool d.down] 29)) 3 (.int .i64 (i:Int))).alloc (.cells #[.string ⟨#[]⟩] 9)).alloc (.cells #[.slice aw d.wait.length cw] 27)
 have bR:=(Boxed.new ((w.alloc (.cells #[.slice al d.last.length cl,.slice aw d.wait.length cw,.int .i64 (d.arm:Int),.bool d.down] 29)).alloc (.cells #[.int .i64 (i:Int)] 3)) 9 (.string ⟨#[]⟩)).alloc (.cells #[.slice aw d.wait.length cw] 27)
 have bS:=Boxed.new (((w.alloc (.cells #[.slice al d.last.length cl,.slice aw d.wait.length cw,.int .i64 (d.arm:Int),.bool d.down] 29)).alloc (.cells #[.int .i64 (i:Int)] 3)).alloc (.cells #[.string ⟨#[]⟩] 9)) 27 (.slice aw d.wait.length cw)
 have G1:Ex (w.alloc (.cells #[.slice al d.last.length cl,.slice aw d.wait.length cw,.int .i64 (d.arm:Int),.bool d.down] 29)) ((((w.alloc (.cells #[.slice al d.last.length cl,.slice aw d.wait.length cw,.int .i64 (d.arm:Int),.bool d.down] 29)).alloc (.cells #[.int .i64 (i:Int)] 3)).alloc (.cells #[.string ⟨#[]⟩] 9)).alloc (.cells #[.slice aw d.wait.length cw] 27)):=(((Ex.refl _).al _).al _).al _
 have hsz:((((w.alloc (.cells #[.slice al d.last.length cl,.slice aw d.wait.length cw,.int .i64 (d.arm:Int),.bool d.down] 29)).alloc (.cells #[.int .i64 (i:Int)] 3)).alloc (.cells #[.string ⟨#[]⟩] 9)).alloc (.cells #[.slice aw d.wait.length cw] 27)).heap.size=w.heap.size+4:=by simp
 have G0:=Ex.trans (Ex.mk_alloc _ _) G1
 obtain ⟨c0,c1,c2,c3⟩:=box4 G1
 clear c1 c2 c3 G1
 simp only [World.size_alloc] at bI bR bS
 generalize (((w.alloc _).alloc _).alloc _).alloc _=W0 at *
 have HI:=Lib.hid bI
 have HR:=Lib.hid bR
 have HS:=Lib.hid hsz
 have HC:=Lib.hid c0
 have HG:=Lib.hid G0
 have hqz:w.heap.size+4<=W0.heap.size:=by omega
 have hEnd:∀ (D:Nat) (W:World) (o o':Obj),W0.heap.size<=D->Ex w W->W.heap[D]?=some o->o.isCells=false->o.isWalk=false->Ex w (W.putObj D o'):=fun D W o o' h1 h2 h3 h4 h5=>Below.trans h2 (belowK_b (w:=w) (Nat.le_refl _) W D o o' (by omega) h3 h4 h5)
 have HE:=Lib.hid hEnd
 clear bI bR hsz c0 G0 hEnd
 refine wpIn_rangeFunc_ownH hro h1 (gf:=176) (lb:=#[.pointer (some ⟨w.heap.size+1+1+1,0,none⟩)]) rfl h63 (enters_of Tryz.func176 (by kernel_rfl) rfl)
  (back_stops F (n - 1) h63 hro (by omega) (w.heap.size+1+1+1) W0.heap.size (.slice aw d.wait.length cw) d.wait hm W0 (by omega) rfl bS.cell (HW.out.ex HG.out)) belowK_t (belowK_b (Nat.le_refl _)) (Below.refl _ _) (fun _=>rfl)
  (fun pre W=>(∀ x ∈ pre,x.2.1 ≠ i)/\Below W0.heap.size W0 W)
  (fun c pre W=>c=.ret/\∃ (pre':List (Nat × (Nat × ByteArray))) (x:Nat × (Nat × ByteArray)),pre=pre'++[x]/\(∀ y ∈ pre',y.2.1 ≠ i)/\x.2.1=i/\Boxed W (w.heap.size+1+1) 9 (.string x.2.2)/\Ex w W)
  (OwnFrom.and (own_pure _) (ownFrom_below (Nat.le_refl _) (Nat.le_refl _)))
  (fun c s X Y row hs hg hr=>by
   obtain ⟨h0,pre',x,h2,h3,h4,h5,h6⟩:=hs
   exact ⟨h0,pre',x,h2,h3,h4,boxed_own (w.heap.size+1+1) 9 (fun (_:Unit)=>Value.string x.2.2) () X Y row h5 hg (fun r e=>(hr r e).2),ownFrom_below (β:=Unit) (Nat.le_refl _) (by omega) () X Y row h6 hg hr⟩)
  ⟨fun x hx=>(by cases hx),Below.refl _ _⟩
  (fun x a' W=>∃ Bx,w.heap.size+3 < Bx/\Box2 W Bx 77 (.int .i64 (x.2.1:Int)) (.string x.2.2)/\a'={ tmps:=#[.agg #[.slice al d.last.length cl,.slice aw d.wait.length cw,.int .i64 (d.arm:Int),.bool d.down],.int .i64 (i:Int),.pointer (some ⟨w.heap.size,0,none⟩),.pointer (some ⟨w.heap.size+1,0,none⟩),.pointer (some ⟨w.heap.size+1+1,0,none⟩),undef,.pointer (some ⟨Bx,0,none⟩),.pointer (some ⟨w.heap.size,1,none⟩),.slice aw d.wait.length cw,.func (.func 176) #[] #[.pointer (some ⟨w.heap.size+1+1+1,0,none⟩)],.int .i64 (x.1:Int),.agg #[.int .i64 (x.2.1:Int),.string x.2.2],undef,undef,undef,undef,undef,undef,undef,undef,undef,undef,undef],defers:=[] })
  (fun x a' _ X Y row hs hg hr=>by obtain ⟨Bx,h1,h2,h3⟩:=hs;exact ⟨Bx,h1,box2_own (β:=Unit) Bx _ _ _ () X Y row h2 hg (fun r e=>(hr r e).2),h3⟩)
  ?assign ?body ?done ?stop
 case assign =>
  rintro l pre x W K ⟨hp,hB⟩ hK
  have hB2:=hB.size
  clear bS
  unfold encsB
  gi_wp2
  exact hK _ _ ((KeepsOthers.alloc _ _).from _) ((Below.refl _ W).alloc hB2 _) ⟨hp,hB.alloc hB2 _⟩ ⟨W.heap.size,by omega,World.alloc_heap_new W _,rfl⟩
 case body =>
  rintro l pre x a' W hl ⟨r,hr⟩ ⟨hp,hB⟩ ⟨Bx,hBx,bX,rfl⟩ hlt
  have cI:=(hB.cell (p:=⟨w.heap.size+1,0,none⟩) (by show w.heap.size+1 < _;omega)).trans HI.out.cell
  have x0:=bX.cell0
  have x1:=bX.cell1
  have HX:=Lib.hid bX
  have HP:=Lib.hid hp
  have HB:=Lib.hid hB
  have bRW:Boxed W (w.heap.size+1+1) 9 (.string ⟨#[]⟩):=(hB.block _ (by omega)).trans HR.out
  have cR:=bRW.cell
  have fR:=bRW.frozen
  have HBR:=Lib.hid bRW
  clear bX hp hB bRW bS
  by_cases hxi:x.2.1=i
  ·have e1:((x.2.1:Int) == (i:Int))=true:=by simp [hxi]
   have e2:(x.2.1 == i)=true:=by simp [hxi]
   have HXI:=Lib.hid hxi
   clear hxi
   gi_wp2
   exact ⟨(KeepsOthers.setCell _ _ _).from _,rfl,pre,x,rfl,HP.out,HXI.out,HBR.out.set _,(Ex.trans HG.out HB.out).st (p:=⟨w.heap.size+1+1,0,none⟩) (by show w.heap.size<=w.heap.size+1+1;omega) _⟩
  ·have e1:((x.2.1:Int) == (i:Int))=false:=beq_eq_false_iff_ne.2 (by omega)
   have e2:(x.2.1 == i)=false:=by simp [hxi]
   have HXI:=Lib.hid hxi
   clear hxi
   gi_wp2
   exact ⟨KeepsFrom.refl _ _,Below.refl _ _,fun y hy=>by
    rcases List.mem_append.1 hy with hy | hy
    ·exact HP.out y hy
    ·rw [List.mem_singleton.1 hy];exact HXI.out,HB.out⟩
 case done =>
  rintro D zs W hD rfl ⟨hp,hB⟩ hK
  have cI:=(hB.cell (p:=⟨w.heap.size+1,0,none⟩) (by show w.heap.size+1 < _;omega)).trans HI.out.cell
  have c0:=(hB.cell (p:=⟨w.heap.size,0,none⟩) (by show w.heap.size < _;omega)).trans HC.out
  have bRW:Boxed W (w.heap.size+1+1) 9 (.string ⟨#[]⟩):=(hB.block _ (by omega)).trans HR.out
  have cR:=bRW.cell
  have fR:=bRW.frozen
  obtain ⟨b,off,rfl,hbl⟩:=HL.out.addr (by omega)
  have hrow:=HL.out.ex (Ex.trans HG.out hB)
  have cL:=hrow.at (i:=i) (j:=0) (x:=d.last.getD i ByteArray.empty) (by simp [List.getD,hi]) rfl
  simp only [encS,Nat.mul_one,Nat.add_zero] at cL
  have HLat:=Lib.hid (lat_none d i hp)
  have HK:=Lib.hid hK
  have HBR:=Lib.hid bRW
  have HB:=Lib.hid hB
  have i0:(0:Int)<=(i:Int):=by omega
  have i1:(i:Int) < (d.last.length:Int):=by omega
  generalize hs:d.last.getD i ByteArray.empty=s at *
  have HSS:=Lib.hid hs
  clear hs hp bRW hB bS hrow hK
  gi_wp2
  have hK1:=(KeepsOthers.setCell W ⟨w.heap.size+1+1,0,none⟩ (.string s)).same D _ HK.out rfl
  have hb3:=((HBR.out.set (.string s)).kept (grownBy_putObj' _ D (.deferred none)) (by simp;omega)).cell
  refine ⟨by simp,.inl ⟨_,_,rfl,run_takeDeferred hK1,?_⟩⟩
  refine ⟨.string s,by simp [results,Tryz.results148,go_sem,hb3],by rw [HLat.out],HE.out D _ _ _ hD ((Ex.trans HG.out HB.out).st (p:=⟨w.heap.size+1+1,0,none⟩) (by show w.heap.size<=w.heap.size+1+1;omega) _) hK1 rfl rfl⟩
 case stop =>
  rintro D c pre W hD ⟨k,hk,hpk⟩ ⟨rfl,pre',x,he,hp,hx,hb,hg⟩ hK
  have HLat:=Lib.hid (lat_some d i k pre' x hk (he.symm.trans hpk) hp hx)
  have cR:=hb.cell
  have HK:=Lib.hid hK
  have HBR:=Lib.hid hb
  have HG2:=Lib.hid hg
  clear hpk he hp hx hK hb hg bS
  gi_wp2
  have hb3:=(HBR.out.kept (grownBy_putObj' _ D (.deferred none)) (by simp;omega)).cell
  refine ⟨by simp,.inl ⟨_,_,rfl,run_takeDeferred HK.out,?_⟩⟩
  refine ⟨.string x.2.2,by simp [results,Tryz.results148,go_sem,hb3],by rw [HLat.out],HE.out D _ _ _ hD HG2.out HK.out rfl rfl⟩

theorem latest_any (v:Value) (d:D) (i:Nat) (w:World) (hd:IsD w v d) (ok:d.ok) (hi:i < d.last.length) :
  Calls Tryz.prog 148 #[v,.int .i64 (i:Int)] w (Zmv w (.string (latest d i))) :=
 (callsIn_wide (n:=6)).1 (latest_in _ 6 trivial trivial trivial rfl (Nat.le_refl _) v d i w hd ok hi)

end Go.Proofs.YtpnegheknjeljaaGreat.dsk
