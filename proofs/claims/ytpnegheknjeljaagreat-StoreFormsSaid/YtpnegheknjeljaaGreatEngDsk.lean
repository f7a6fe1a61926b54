/- What the engine is told of package disk: its latest, and a text said again. -/
import Derived.Test.YtpnegheknjeljaaGreatMrg3
import Derived.Test.YtpnegheknjeljaaGreatDsk4
import Derived.Test.YtpnegheknjeljaaGreatShelf
namespace Go.Proofs.YtpnegheknjeljaaGreat.eng
open Go Go.RowKit
variable {W0 : Base}
set_option linter.unusedVariables false
set_option linter.unusedSimpArgs false

theorem strsOf_ok {m:Map}:∀ {l:List AV} {xs:List ByteArray},Zpl l=some xs->denL m l=some (encS.all xs)
 | [],xs,h=>by simp [Zpl] at h;subst h;rfl
 | x :: l,xs,h=>by
  simp only [Zpl,Option.bind_eq_some_iff,Option.map_eq_some_iff] at h
  obtain ⟨s,hs,ys,hy,rfl⟩:=h
  unfold strOf at hs
  split at hs
  ·cases hs
   rw [encS.all_cons]
   simp [denL,AV.den,strsOf_ok hy,encS]
  ·cases hs
def Zoc:List AV->Option (List (Nat × ByteArray))
 | []=>some []
 | .val (.int .i64 (.ofNat i)) :: .val (.string s) :: l=>(Zoc l).map ((i,s) :: ·)
 | _=>none
theorem putsOf_ok {m:Map}:∀ (l:List AV) {xs:List (Nat × ByteArray)},Zoc l=some xs->denL m l=some (dsk.encP.all xs)
 | [],xs,h=>by simp [Zoc] at h;subst h;rfl
 | [x],xs,h=>by unfold Zoc at h;split at h <;> simp_all
 | x :: y :: l,xs,h=>by
  unfold Zoc at h
  split at h
  ·rename_i he;cases he
  ·rename_i i s l' he
   cases he
   simp only [Option.map_eq_some_iff] at h
   obtain ⟨ys,hy,rfl⟩:=h
   rw [dsk.encP.all_cons]
   simp [denL,AV.den,putsOf_ok l hy,dsk.encP]
  ·cases h

def okD (d:dsk.D):Bool:=Nat.ble d.last.length 64 && d.last.all (fun s=>Nat.beq s.size 32) && d.wait.all (fun p=>Nat.blt p.1 d.last.length && Nat.beq p.2.size 32) && Nat.ble d.wait.length 1000 && Nat.ble d.arm 1000
theorem okD_ok {d:dsk.D} (h:okD d=true):d.ok:=by
 simp only [okD,Bool.and_eq_true,Nat.ble_eq,List.all_eq_true,Nat.beq_eq,Nat.blt_eq] at h
 obtain ⟨⟨⟨⟨h1,h2⟩,h3⟩,h4⟩,h5⟩:=h
 exact ⟨h1,h2,h3,h4,h5⟩
def dOf (st:St) (x:AV):Option (dsk.D × Log):=match x.aggs with
 | some [a,b,.val (.int .i64 (.ofNat arm)),.val (.bool down)]=>(Zju st 1 a).bind fun (n,cs,l1)=>(Zpl cs).bind fun last=>cond (Nat.beq last.length n) ((Zju st 2 b).bind fun (k,ps,l2)=>(Zoc ps).bind fun wait=>cond (Nat.beq wait.length k) (some (⟨last,wait,arm,down⟩,l1.or l2)) none) none
 | _=>none
theorem dOf_ok {st:St} {x:AV} {d:dsk.D} {lg:Log} {A:Nat->Prop} {m:Map} {w:World} {u:Value} (h:dOf st x=some (d,lg)) (hA:lg.Fits W0 A) (hR:Rel W0 A m st.heap.get w) (hx:x.den m=some u):dsk.IsD w u d:=by
 unfold dOf at h
 split at h
 ·rename_i a b arm down hag
  obtain ⟨l,rfl,hl⟩:=Zn3 hag hx
  simp only [Option.bind_eq_some_iff] at h
  obtain ⟨⟨n,cs,l1⟩,h1,last,h2,h⟩:=h
  cases hn:Nat.beq last.length n with
  | false=>simp [hn] at h
  | true =>
   simp only [hn,cond_true,Option.bind_eq_some_iff] at h
   obtain ⟨⟨k,ps,l2⟩,h3,wait,h4,h⟩:=h
   cases hk:Nat.beq wait.length k with
   | false=>simp [hk] at h
   | true =>
    simp only [hk,cond_true,Option.some.injEq,Prod.mk.injEq] at h
    obtain ⟨rfl,rfl⟩:=h
    simp only [denL,AV.den,Option.bind_eq_some_iff,Option.map_eq_some_iff,Option.some.injEq] at hl
    obtain ⟨va,hva,l',⟨vb,hvb,l'',⟨q1,rfl,l3,⟨q2,rfl,l4,rfl,rfl⟩,rfl⟩,rfl⟩,rfl⟩:=hl
    have r1:=sliceCells_ok encS (xs:=last) h1 (or_A hA).1 hR hva (strsOf_ok h2) (Nat.eq_of_beq_eq_true hn)
    have r2:=sliceCells_ok dsk.encP (xs:=wait) h3 (or_A hA).2 hR hvb (putsOf_ok ps h4) (Nat.eq_of_beq_eq_true hk)
    exact dsk.IsD.mk' (d:=⟨last,wait,arm,down⟩) r1 r2
 ·cases h
def Zlh:Orc:=fun f args st=>cond (Nat.beq f 148) (match args with
 | [x,.val (.int .i64 (.ofNat i))]=>(dOf st x).bind fun (d,lg)=>cond (okD d && Nat.blt i d.last.length) (some (.ret (.val (.string (dsk.latest d i))),st,lg)) none
 | _=>none) none
theorem orcLatest_ok:OrcOk Tryz.prog Zlh:=by
 refine ⟨?_,?_⟩
 ·intro f args st r st' lg hr W0 A m w vs hA hR hF hvs
  simp only [Zlh,cond_eq_ite] at hr
  split at hr
  ·rename_i hf
   have:=Nat.eq_of_beq_eq_true hf
   subst this
   split at hr
   ·rename_i x i
    simp only [Option.bind_eq_some_iff] at hr
    obtain ⟨⟨d,l1⟩,hd,hr⟩:=hr
    split at hr
    ·rename_i hc
     simp only [Bool.and_eq_true,Nat.blt_eq] at hc
     simp only [Option.some.injEq,Prod.mk.injEq] at hr
     obtain ⟨rfl,rfl,rfl⟩:=hr
     simp only [denL,AV.den,Option.bind_eq_some_iff,Option.map_eq_some_iff,Option.some.injEq] at hvs
     obtain ⟨u,hu,l',⟨q,rfl,l'',rfl,rfl⟩,rfl⟩:=hvs
     refine (dsk.latest_any u d i w (dOf_ok hd hA hR hu) (okD_ok hc.1) hc.2).mono ?_
     rintro e w' ⟨rfl,g⟩
     exact ⟨m,⟨step_ex hR g,hF⟩,_,rfl,rfl⟩
    ·cases hr
   ·cases hr
  ·cases hr
 ·intro f args st r st' lg hr
  simp only [Zlh,cond_eq_ite] at hr
  split at hr
  ·split at hr
   ·simp only [Option.bind_eq_some_iff] at hr
    obtain ⟨⟨d,l1⟩,hd,hr⟩:=hr
    split at hr
    ·cases hr;exact Gk.refl _ _
    ·cases hr
   ·cases hr
  ·cases hr

def Zl9:List Value->Option Value
 | [.string s,.int .i64 (.ofNat c)]=>cond (Nat.ble c 9223372036854775807 && Nat.ble (s.size * c) 140737488355328) (some (.string ⟨(Lib.repeatL s.data.toList c).toArray⟩)) none
 | _=>none
theorem specRepeat_ok:∀ vs v,Zl9 vs=some v->∀ w,Calls Tryz.prog 76 vs.toArray w fun e w'=>e=.returned v/\Ex w w':=by
 intro vs v h w
 unfold Zl9 at h
 split at h
 ·rename_i s c
  cases hc:(Nat.ble c 9223372036854775807 && Nat.ble (s.size * c) 140737488355328) with
  | false=>simp [hc] at h
  | true =>
   simp only [hc,cond_true,Option.some.injEq] at h
   subst h
   simp only [Bool.and_eq_true,Nat.ble_eq] at hc
   exact Tryz.strings_Repeat s c w hc.1 hc.2
 ·cases h
def orcD:Orc:=orcOr Zlh (Zm2 76 Zl9)
theorem orcD_ok:OrcOk Tryz.prog orcD:=Zjy orcLatest_ok (orcPlain_ok specRepeat_ok)

theorem names_ok:GoodP Tryz.prog:=⟨by kernel_rfl,rfl⟩
theorem mixed_ok:Tryz.prog.follows .mixedOrders=true:=by kernel_rfl

end Go.Proofs.YtpnegheknjeljaaGreat.eng
