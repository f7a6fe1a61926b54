/- lease.Holds where there is no such lease, by hand. -/
import Derived.Test.YtpnegheknjeljaaLea
import Derived.Shelf.RegionOpenPlain
namespace Go.Proofs.Ytpnegheknjeljaa.lho
open Go Go.RowKit eng SX Fact fil lem lea
set_option maxRecDepth 100000
set_option linter.unusedVariables false
set_option linter.unusedSimpArgs false
theorem Zd4 {w:World} {l:Value} {xs:List LeM} (h:RowE encL w l xs):Reads w (pRow encL xs) l:=by
 obtain ⟨a,cap,rfl,h1,h2,h3⟩:=h
 simp only [pRow,Reads]
 refine ⟨a,cap,rfl,h1,h2,?_⟩
 rcases Nat.eq_zero_or_pos xs.length with h0 | h0
 ·left
  rw [List.eq_nil_of_length_eq_zero h0];rfl
 ·obtain ⟨b,off,rfl,_,hc⟩:=h3 h0
  refine .inr ⟨b,off,rfl,Zau.of fun j p hj=>?_⟩
  rw [List.getElem?_map,Option.map_eq_some_iff] at hj
  obtain ⟨v,hv,rfl⟩:=hj
  exact ⟨v,hc j v hv,rfl,encL.all_one' xs v (List.mem_of_getElem? hv)⟩
theorem found_none (l:Value) (xs:List LeM) (c f:Int) (w:World) (hr:RowE encL w l xs) (hl:xs.length<=1000000) (hn:xs.find? (isL c f)=none) :
  Calls Try.prog 25 #[l,.int .i64 c,.int .i64 f] w fun e w'=>e=.panicked [{ v:=pvF,recovered:=false }]/\Ex w w':=by
 refine (toldFo 1 w (fun _=>False) [l,.int .i64 c,.int .i64 f] [pRow encL xs,pI c,pI f] [pI (0+1:Nat)] (Zav fFo ⟨xs,c,f,hl,rfl,by simp only [Zfo,hn]⟩) rfl rfl (fun k h=>h.elim) (fun i p u hp hu=>⟨?_,fun h=>by
  match i with
  | 0=>simp [EFo] at h
  | 1=>simp [EFo] at h
  | 2=>simp [EFo] at h
  | i+3=>simp [EFo] at h⟩)).mono ?_
 ·match i,hp,hu with
  | 0,hp,hu=>simp at hp hu;subst hp;subst hu;exact Zd4 hr
  | 1,hp,hu=>simp at hp hu;subst hp;subst hu;simp only [Reads];exact ⟨trivial,rfl⟩
  | 2,hp,hu=>simp at hp hu;subst hp;subst hu;simp only [Reads];exact ⟨trivial,rfl⟩
  | i+3,hp,hu=>simp at hp
 ·rintro e W' (⟨qs',h,_⟩ | ⟨j,v,u,h,hv,he,hE⟩)
  ·simp at h
  ·simp only [List.cons.injEq,PV.v.injEq,Value.int.injEq,true_and,and_true] at h
   obtain rfl:j=0:=by omega
   simp at hv
   subst hv
   exact ⟨he,hE⟩
set_option maxHeartbeats 8000000 in
theorem one_none (l:Value) (xs:List LeM) (now c f:Int) (b0 b1 b2 b3 b4:Nat) (w:World) (hr:RowE encL w l xs) (hl:xs.length<=1000000) (hn:xs.find? (isL c f)=none)
  (k0:w.cell? ⟨b0,0,none⟩=some l) (k1:w.cell? ⟨b1,0,none⟩=some (.int .i64 c)) (k2:w.cell? ⟨b2,0,none⟩=some (.int .i64 f)) (k3:w.cell? ⟨b3,0,none⟩=some (.int .i64 now)) :
  Calls Try.prog 24 #[.pointer (some ⟨b0,0,none⟩),.pointer (some ⟨b1,0,none⟩),.pointer (some ⟨b2,0,none⟩),.pointer (some ⟨b3,0,none⟩),.pointer (some ⟨b4,0,none⟩)] w fun e w'=>e=.panicked [{ v:=pvF,recovered:=false }]/\Ex w w':=by
 have mixed:Try.prog.follows .mixedOrders=true:=by kernel_rfl
 obtain ⟨a,cap,rfl,h1,h2⟩:=hr.len
 have gd:Ex w w.drew:=⟨rfl,rfl,rfl,Nat.le_refl _,fun _ _=>rfl⟩
 have HF:=Lib.hid (found_none (.slice a xs.length cap) xs c f w.drew (hr.ex gd) hl hn)
 have GD:=Lib.hid gd
 clear gd
 clear hr
 go_enter Try.func24,Try.ntmps24
 refine wp_region_any mixed ?_
 change wpAny _ _ _ _ _ _ _ (World.drew _)
 have d0:w.drew.cell? ⟨b0,0,none⟩=some (.slice a xs.length cap):=k0
 have d1:w.drew.cell? ⟨b1,0,none⟩=some (.int .i64 c):=k1
 have d2:w.drew.cell? ⟨b2,0,none⟩=some (.int .i64 f):=k2
 have d3:w.drew.cell? ⟨b3,0,none⟩=some (.int .i64 now):=k3
 refine wpAny_ready (rs:=[0,1,2,4]) (by kernel_rfl) (by simp) ?_
 refine (AllReady.cons rfl (fun K hK=>?_) (AllReady.cons rfl (fun K hK=>?_) (AllReady.cons rfl (fun K hK=>?_) (AllReady.cons rfl (fun K hK=>?_) AllReady.nil))))
 ·go_simp;refine hK _ _ ?_;clear hK K
  refine wpAny_ready (rs:=[1,2,4]) (by kernel_rfl) (by simp) ?_
  refine (AllReady.cons rfl (fun K hK=>?_) (AllReady.cons rfl (fun K hK=>?_) (AllReady.cons rfl (fun K hK=>?_) AllReady.nil)))
  ·go_simp;refine hK _ _ ?_;clear hK K
   refine wpAny_ready (rs:=[2,4]) (by kernel_rfl) (by simp) ?_
   refine (AllReady.cons rfl (fun K hK=>?_) (AllReady.cons rfl (fun K hK=>?_) AllReady.nil))
   ·go_simp;refine hK _ _ ?_;clear hK K
    refine wpAny_ready (rs:=[3,4]) (by kernel_rfl) (by simp) ?_
    refine (AllReady.cons rfl (fun K hK=>?_) (AllReady.cons rfl (fun K hK=>?_) AllReady.nil))
    ·go_simp;refine HF.out.mono ?_;rintro e W ⟨rfl,hE⟩;exact ⟨rfl,rfl,Ex.trans GD.out hE⟩
    ·go_simp;refine hK _ _ ?_;clear hK K
     refine wpAny_ready (rs:=[3]) (by kernel_rfl) (by simp) ?_
     refine (AllReady.cons rfl (fun K hK=>?_) AllReady.nil)
     ·go_simp;refine HF.out.mono ?_;rintro e W ⟨rfl,hE⟩;exact ⟨rfl,rfl,Ex.trans GD.out hE⟩
   ·go_simp;refine hK _ _ ?_;clear hK K
    refine wpAny_ready (rs:=[2]) (by kernel_rfl) (by simp) ?_
    refine (AllReady.cons rfl (fun K hK=>?_) AllReady.nil)
    ·go_simp;refine hK _ _ ?_;clear hK K
     refine wpAny_ready (rs:=[3]) (by kernel_rfl) (by simp) ?_
     refine (AllReady.cons rfl (fun K hK=>?_) AllReady.nil)
     ·go_simp;refine HF.out.mono ?_;rintro e W ⟨rfl,hE⟩;exact ⟨rfl,rfl,Ex.trans GD.out hE⟩
  ·go_simp;refine hK _ _ ?_;clear hK K
   refine wpAny_ready (rs:=[1,4]) (by kernel_rfl) (by simp) ?_
   refine (AllReady.cons rfl (fun K hK=>?_) (AllReady.cons rfl (fun K hK=>?_) AllReady.nil))
   ·go_simp;refine hK _ _ ?_;clear hK K
    refine wpAny_ready (rs:=[3,4]) (by kernel_rfl) (by simp) ?_
    refine (AllReady.cons rfl (fun K hK=>?_) (AllReady.cons rfl (fun K hK=>?_) AllReady.nil))
    ·go_simp;refine HF.out.mono ?_;rintro e W ⟨rfl,hE⟩;exact ⟨rfl,rfl,Ex.trans GD.out hE⟩
    ·go_simp;refine hK _ _ ?_;clear hK K
     refine wpAny_ready (rs:=[3]) (by kernel_rfl) (by simp) ?_
     refine (AllReady.cons rfl (fun K hK=>?_) AllReady.nil)
     ·go_simp;refine HF.out.mono ?_;rintro e W ⟨rfl,hE⟩;exact ⟨rfl,rfl,Ex.trans GD.out hE⟩
   ·go_simp;refine hK _ _ ?_;clear hK K
    refine wpAny_ready (rs:=[1]) (by kernel_rfl) (by simp) ?_
    refine (AllReady.cons rfl (fun K hK=>?_) AllReady.nil)
    ·go_simp;refine hK _ _ ?_;clear hK K
     refine wpAny_ready (rs:=[3]) (by kernel_rfl) (by simp) ?_
     refine (AllReady.cons rfl (fun K hK=>?_) AllReady.nil)
     ·go_simp;refine HF.out.mono ?_;rintro e W ⟨rfl,hE⟩;exact ⟨rfl,rfl,Ex.trans GD.out hE⟩
  ·go_simp;refine hK _ _ ?_;clear hK K
   refine wpAny_ready (rs:=[1,2]) (by kernel_rfl) (by simp) ?_
   refine (AllReady.cons rfl (fun K hK=>?_) (AllReady.cons rfl (fun K hK=>?_) AllReady.nil))
   ·go_simp;refine hK _ _ ?_;clear hK K
    refine wpAny_ready (rs:=[2]) (by kernel_rfl) (by simp) ?_
    refine (AllReady.cons rfl (fun K hK=>?_) AllReady.nil)
    ·go_simp;refine hK _ _ ?_;clear hK K
     refine wpAny_ready (rs:=[3]) (by kernel_rfl) (by simp) ?_
     refine (AllReady.cons rfl (fun K hK=>?_) AllReady.nil)
     ·go_simp;refine HF.out.mono ?_;rintro e W ⟨rfl,hE⟩;exact ⟨rfl,rfl,Ex.trans GD.out hE⟩
   ·go_simp;refine hK _ _ ?_;clear hK K
    refine wpAny_ready (rs:=[1]) (by kernel_rfl) (by simp) ?_
    refine (AllReady.cons rfl (fun K hK=>?_) AllReady.nil)
    ·go_simp;refine hK _ _ ?_;clear hK K
     refine wpAny_ready (rs:=[3]) (by kernel_rfl) (by simp) ?_
     refine (AllReady.cons rfl (fun K hK=>?_) AllReady.nil)
     ·go_simp;refine HF.out.mono ?_;rintro e W ⟨rfl,hE⟩;exact ⟨rfl,rfl,Ex.trans GD.out hE⟩
 ·go_simp;refine hK _ _ ?_;clear hK K
  refine wpAny_ready (rs:=[0,2,4]) (by kernel_rfl) (by simp) ?_
  refine (AllReady.cons rfl (fun K hK=>?_) (AllReady.cons rfl (fun K hK=>?_) (AllReady.cons rfl (fun K hK=>?_) AllReady.nil)))
  ·go_simp;refine hK _ _ ?_;clear hK K
   refine wpAny_ready (rs:=[2,4]) (by kernel_rfl) (by simp) ?_
   refine (AllReady.cons rfl (fun K hK=>?_) (AllReady.cons rfl (fun K hK=>?_) AllReady.nil))
   ·go_simp;refine hK _ _ ?_;clear hK K
    refine wpAny_ready (rs:=[3,4]) (by kernel_rfl) (by simp) ?_
    refine (AllReady.cons rfl (fun K hK=>?_) (AllReady.cons rfl (fun K hK=>?_) AllReady.nil))
    ·go_simp;refine HF.out.mono ?_;rintro e W ⟨rfl,hE⟩;exact ⟨rfl,rfl,Ex.trans GD.out hE⟩
    ·go_simp;refine hK _ _ ?_;clear hK K
     refine wpAny_ready (rs:=[3]) (by kernel_rfl) (by simp) ?_
     refine (AllReady.cons rfl (fun K hK=>?_) AllReady.nil)
     ·go_simp;refine HF.out.mono ?_;rintro e W ⟨rfl,hE⟩;exact ⟨rfl,rfl,Ex.trans GD.out hE⟩
   ·go_simp;refine hK _ _ ?_;clear hK K
    refine wpAny_ready (rs:=[2]) (by kernel_rfl) (by simp) ?_
    refine (AllReady.cons rfl (fun K hK=>?_) AllReady.nil)
    ·go_simp;refine hK _ _ ?_;clear hK K
     refine wpAny_ready (rs:=[3]) (by kernel_rfl) (by simp) ?_
     refine (AllReady.cons rfl (fun K hK=>?_) AllReady.nil)
     ·go_simp;refine HF.out.mono ?_;rintro e W ⟨rfl,hE⟩;exact ⟨rfl,rfl,Ex.trans GD.out hE⟩
  ·go_simp;refine hK _ _ ?_;clear hK K
   refine wpAny_ready (rs:=[0,4]) (by kernel_rfl) (by simp) ?_
   refine (AllReady.cons rfl (fun K hK=>?_) (AllReady.cons rfl (fun K hK=>?_) AllReady.nil))
   ·go_simp;refine hK _ _ ?_;clear hK K
    refine wpAny_ready (rs:=[3,4]) (by kernel_rfl) (by simp) ?_
    refine (AllReady.cons rfl (fun K hK=>?_) (AllReady.cons rfl (fun K hK=>?_) AllReady.nil))
    ·go_simp;refine HF.out.mono ?_;rintro e W ⟨rfl,hE⟩;exact ⟨rfl,rfl,Ex.trans GD.out hE⟩
    ·go_simp;refine hK _ _ ?_;clear hK K
     refine wpAny_ready (rs:=[3]) (by kernel_rfl) (by simp) ?_
     refine (AllReady.cons rfl (fun K hK=>?_) AllReady.nil)
     ·go_simp;refine HF.out.mono ?_;rintro e W ⟨rfl,hE⟩;exact ⟨rfl,rfl,Ex.trans GD.out hE⟩
   ·go_simp;refine hK _ _ ?_;clear hK K
    refine wpAny_ready (rs:=[0]) (by kernel_rfl) (by simp) ?_
    refine (AllReady.cons rfl (fun K hK=>?_) AllReady.nil)
    ·go_simp;refine hK _ _ ?_;clear hK K
     refine wpAny_ready (rs:=[3]) (by kernel_rfl) (by simp) ?_
     refine (AllReady.cons rfl (fun K hK=>?_) AllReady.nil)
     ·go_simp;refine HF.out.mono ?_;rintro e W ⟨rfl,hE⟩;exact ⟨rfl,rfl,Ex.trans GD.out hE⟩
  ·go_simp;refine hK _ _ ?_;clear hK K
   refine wpAny_ready (rs:=[0,2]) (by kernel_rfl) (by simp) ?_
   refine (AllReady.cons rfl (fun K hK=>?_) (AllReady.cons rfl (fun K hK=>?_) AllReady.nil))
   ·go_simp;refine hK _ _ ?_;clear hK K
    refine wpAny_ready (rs:=[2]) (by kernel_rfl) (by simp) ?_
    refine (AllReady.cons rfl (fun K hK=>?_) AllReady.nil)
    ·go_simp;refine hK _ _ ?_;clear hK K
     refine wpAny_ready (rs:=[3]) (by kernel_rfl) (by simp) ?_
     refine (AllReady.cons rfl (fun K hK=>?_) AllReady.nil)
     ·go_simp;refine HF.out.mono ?_;rintro e W ⟨rfl,hE⟩;exact ⟨rfl,rfl,Ex.trans GD.out hE⟩
   ·go_simp;refine hK _ _ ?_;clear hK K
    refine wpAny_ready (rs:=[0]) (by kernel_rfl) (by simp) ?_
    refine (AllReady.cons rfl (fun K hK=>?_) AllReady.nil)
    ·go_simp;refine hK _ _ ?_;clear hK K
     refine wpAny_ready (rs:=[3]) (by kernel_rfl) (by simp) ?_
     refine (AllReady.cons rfl (fun K hK=>?_) AllReady.nil)
     ·go_simp;refine HF.out.mono ?_;rintro e W ⟨rfl,hE⟩;exact ⟨rfl,rfl,Ex.trans GD.out hE⟩
 ·go_simp;refine hK _ _ ?_;clear hK K
  refine wpAny_ready (rs:=[0,1,4]) (by kernel_rfl) (by simp) ?_
  refine (AllReady.cons rfl (fun K hK=>?_) (AllReady.cons rfl (fun K hK=>?_) (AllReady.cons rfl (fun K hK=>?_) AllReady.nil)))
  ·go_simp;refine hK _ _ ?_;clear hK K
   refine wpAny_ready (rs:=[1,4]) (by kernel_rfl) (by simp) ?_
   refine (AllReady.cons rfl (fun K hK=>?_) (AllReady.cons rfl (fun K hK=>?_) AllReady.nil))
   ·go_simp;refine hK _ _ ?_;clear hK K
    refine wpAny_ready (rs:=[3,4]) (by kernel_rfl) (by simp) ?_
    refine (AllReady.cons rfl (fun K hK=>?_) (AllReady.cons rfl (fun K hK=>?_) AllReady.nil))
    ·go_simp;refine HF.out.mono ?_;rintro e W ⟨rfl,hE⟩;exact ⟨rfl,rfl,Ex.trans GD.out hE⟩
    ·go_simp;refine hK _ _ ?_;clear hK K
     refine wpAny_ready (rs:=[3]) (by kernel_rfl) (by simp) ?_
     refine (AllReady.cons rfl (fun K hK=>?_) AllReady.nil)
     ·go_simp;refine HF.out.mono ?_;rintro e W ⟨rfl,hE⟩;exact ⟨rfl,rfl,Ex.trans GD.out hE⟩
   ·go_simp;refine hK _ _ ?_;clear hK K
    refine wpAny_ready (rs:=[1]) (by kernel_rfl) (by simp) ?_
    refine (AllReady.cons rfl (fun K hK=>?_) AllReady.nil)
    ·go_simp;refine hK _ _ ?_;clear hK K
     refine wpAny_ready (rs:=[3]) (by kernel_rfl) (by simp) ?_
     refine (AllReady.cons rfl (fun K hK=>?_) AllReady.nil)
     ·go_simp;refine HF.out.mono ?_;rintro e W ⟨rfl,hE⟩;exact ⟨rfl,rfl,Ex.trans GD.out hE⟩
  ·go_simp;refine hK _ _ ?_;clear hK K
   refine wpAny_ready (rs:=[0,4]) (by kernel_rfl) (by simp) ?_
   refine (AllReady.cons rfl (fun K hK=>?_) (AllReady.cons rfl (fun K hK=>?_) AllReady.nil))
   ·go_simp;refine hK _ _ ?_;clear hK K
    refine wpAny_ready (rs:=[3,4]) (by kernel_rfl) (by simp) ?_
    refine (AllReady.cons rfl (fun K hK=>?_) (AllReady.cons rfl (fun K hK=>?_) AllReady.nil))
    ·go_simp;refine HF.out.mono ?_;rintro e W ⟨rfl,hE⟩;exact ⟨rfl,rfl,Ex.trans GD.out hE⟩
    ·go_simp;refine hK _ _ ?_;clear hK K
     refine wpAny_ready (rs:=[3]) (by kernel_rfl) (by simp) ?_
     refine (AllReady.cons rfl (fun K hK=>?_) AllReady.nil)
     ·go_simp;refine HF.out.mono ?_;rintro e W ⟨rfl,hE⟩;exact ⟨rfl,rfl,Ex.trans GD.out hE⟩
   ·go_simp;refine hK _ _ ?_;clear hK K
    refine wpAny_ready (rs:=[0]) (by kernel_rfl) (by simp) ?_
    refine (AllReady.cons rfl (fun K hK=>?_) AllReady.nil)
    ·go_simp;refine hK _ _ ?_;clear hK K
     refine wpAny_ready (rs:=[3]) (by kernel_rfl) (by simp) ?_
     refine (AllReady.cons rfl (fun K hK=>?_) AllReady.nil)
     ·go_simp;refine HF.out.mono ?_;rintro e W ⟨rfl,hE⟩;exact ⟨rfl,rfl,Ex.trans GD.out hE⟩
  ·go_simp;refine hK _ _ ?_;clear hK K
   refine wpAny_ready (rs:=[0,1]) (by kernel_rfl) (by simp) ?_
   refine (AllReady.cons rfl (fun K hK=>?_) (AllReady.cons rfl (fun K hK=>?_) AllReady.nil))
   ·go_simp;refine hK _ _ ?_;clear hK K
    refine wpAny_ready (rs:=[1]) (by kernel_rfl) (by simp) ?_
    refine (AllReady.cons rfl (fun K hK=>?_) AllReady.nil)
    ·go_simp;refine hK _ _ ?_;clear hK K
     refine wpAny_ready (rs:=[3]) (by kernel_rfl) (by simp) ?_
     refine (AllReady.cons rfl (fun K hK=>?_) AllReady.nil)
     ·go_simp;refine HF.out.mono ?_;rintro e W ⟨rfl,hE⟩;exact ⟨rfl,rfl,Ex.trans GD.out hE⟩
   ·go_simp;refine hK _ _ ?_;clear hK K
    refine wpAny_ready (rs:=[0]) (by kernel_rfl) (by simp) ?_
    refine (AllReady.cons rfl (fun K hK=>?_) AllReady.nil)
    ·go_simp;refine hK _ _ ?_;clear hK K
     refine wpAny_ready (rs:=[3]) (by kernel_rfl) (by simp) ?_
     refine (AllReady.cons rfl (fun K hK=>?_) AllReady.nil)
     ·go_simp;refine HF.out.mono ?_;rintro e W ⟨rfl,hE⟩;exact ⟨rfl,rfl,Ex.trans GD.out hE⟩
 ·go_simp;refine hK _ _ ?_;clear hK K
  refine wpAny_ready (rs:=[0,1,2]) (by kernel_rfl) (by simp) ?_
  refine (AllReady.cons rfl (fun K hK=>?_) (AllReady.cons rfl (fun K hK=>?_) (AllReady.cons rfl (fun K hK=>?_) AllReady.nil)))
  ·go_simp;refine hK _ _ ?_;clear hK K
   refine wpAny_ready (rs:=[1,2]) (by kernel_rfl) (by simp) ?_
   refine (AllReady.cons rfl (fun K hK=>?_) (AllReady.cons rfl (fun K hK=>?_) AllReady.nil))
   ·go_simp;refine hK _ _ ?_;clear hK K
    refine wpAny_ready (rs:=[2]) (by kernel_rfl) (by simp) ?_
    refine (AllReady.cons rfl (fun K hK=>?_) AllReady.nil)
    ·go_simp;refine hK _ _ ?_;clear hK K
     refine wpAny_ready (rs:=[3]) (by kernel_rfl) (by simp) ?_
     refine (AllReady.cons rfl (fun K hK=>?_) AllReady.nil)
     ·go_simp;refine HF.out.mono ?_;rintro e W ⟨rfl,hE⟩;exact ⟨rfl,rfl,Ex.trans GD.out hE⟩
   ·go_simp;refine hK _ _ ?_;clear hK K
    refine wpAny_ready (rs:=[1]) (by kernel_rfl) (by simp) ?_
    refine (AllReady.cons rfl (fun K hK=>?_) AllReady.nil)
    ·go_simp;refine hK _ _ ?_;clear hK K
     refine wpAny_ready (rs:=[3]) (by kernel_rfl) (by simp) ?_
     refine (AllReady.cons rfl (fun K hK=>?_) AllReady.nil)
     ·go_simp;refine HF.out.mono ?_;rintro e W ⟨rfl,hE⟩;exact ⟨rfl,rfl,Ex.trans GD.out hE⟩
  ·go_simp;refine hK _ _ ?_;clear hK K
   refine wpAny_ready (rs:=[0,2]) (by kernel_rfl) (by simp) ?_
   refine (AllReady.cons rfl (fun K hK=>?_) (AllReady.cons rfl (fun K hK=>?_) AllReady.nil))
   ·go_simp;refine hK _ _ ?_;clear hK K
    refine wpAny_ready (rs:=[2]) (by kernel_rfl) (by simp) ?_
    refine (AllReady.cons rfl (fun K hK=>?_) AllReady.nil)
    ·go_simp;refine hK _ _ ?_;clear hK K
     refine wpAny_ready (rs:=[3]) (by kernel_rfl) (by simp) ?_
     refine (AllReady.cons rfl (fun K hK=>?_) AllReady.nil)
     ·go_simp;refine HF.out.mono ?_;rintro e W ⟨rfl,hE⟩;exact ⟨rfl,rfl,Ex.trans GD.out hE⟩
   ·go_simp;refine hK _ _ ?_;clear hK K
    refine wpAny_ready (rs:=[0]) (by kernel_rfl) (by simp) ?_
    refine (AllReady.cons rfl (fun K hK=>?_) AllReady.nil)
    ·go_simp;refine hK _ _ ?_;clear hK K
     refine wpAny_ready (rs:=[3]) (by kernel_rfl) (by simp) ?_
     refine (AllReady.cons rfl (fun K hK=>?_) AllReady.nil)
     ·go_simp;refine HF.out.mono ?_;rintro e W ⟨rfl,hE⟩;exact ⟨rfl,rfl,Ex.trans GD.out hE⟩
  ·go_simp;refine hK _ _ ?_;clear hK K
   refine wpAny_ready (rs:=[0,1]) (by kernel_rfl) (by simp) ?_
   refine (AllReady.cons rfl (fun K hK=>?_) (AllReady.cons rfl (fun K hK=>?_) AllReady.nil))
   ·go_simp;refine hK _ _ ?_;clear hK K
    refine wpAny_ready (rs:=[1]) (by kernel_rfl) (by simp) ?_
    refine (AllReady.cons rfl (fun K hK=>?_) AllReady.nil)
    ·go_simp;refine hK _ _ ?_;clear hK K
     refine wpAny_ready (rs:=[3]) (by kernel_rfl) (by simp) ?_
     refine (AllReady.cons rfl (fun K hK=>?_) AllReady.nil)
     ·go_simp;refine HF.out.mono ?_;rintro e W ⟨rfl,hE⟩;exact ⟨rfl,rfl,Ex.trans GD.out hE⟩
   ·go_simp;refine hK _ _ ?_;clear hK K
    refine wpAny_ready (rs:=[0]) (by kernel_rfl) (by simp) ?_
    refine (AllReady.cons rfl (fun K hK=>?_) AllReady.nil)
    ·go_simp;refine hK _ _ ?_;clear hK K
     refine wpAny_ready (rs:=[3]) (by kernel_rfl) (by simp) ?_
     refine (AllReady.cons rfl (fun K hK=>?_) AllReady.nil)
     ·go_simp;refine HF.out.mono ?_;rintro e W ⟨rfl,hE⟩;exact ⟨rfl,rfl,Ex.trans GD.out hE⟩

end Go.Proofs.Ytpnegheknjeljaa.lho
