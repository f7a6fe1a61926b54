/- Texts joined. -/
import Derived.Test.YtcaclmdkhffegaaRow
import Derived.Maps.AppendAt
import Derived.Deep.AppendLies
section
/- Slices of values of any number of cells, that are read, and slices of the call's own. -/
namespace Go.Proofs.Ytcaclmdkhffegaa
set_option maxRecDepth 100000
open Go.RowKit

structure Enc (α:Type) where
 sz:Nat
 enc:α->List Value
 len:∀ a,(enc a).length=sz
 one:∀ a,∀ u ∈ enc a,u.oneCell'=true
 pos:0 < sz

variable {α : Type}

def Enc.all (E:Enc α) (xs:List α):List Value:=xs.flatMap E.enc

@[simp] theorem Enc.all_nil (E:Enc α):E.all []=[]:=rfl
theorem Enc.all_append (E:Enc α) (xs ys:List α):E.all (xs++ys)=E.all xs++E.all ys:=by simp [Enc.all]
theorem Enc.all_cons (E:Enc α) (x:α) (ys:List α):E.all (x :: ys)=E.enc x++E.all ys:=by simp [Enc.all]
theorem Enc.all_length (E:Enc α) (xs:List α):(E.all xs).length=xs.length * E.sz:=by
 induction xs with
 | nil=>simp
 | cons x xs ih=>rw [E.all_cons,List.length_append,ih,E.len,List.length_cons,Nat.succ_mul];omega
theorem Enc.all_one' (E:Enc α) (xs:List α):∀ u ∈ E.all xs,u.oneCell'=true:=by
 intro u hu
 obtain ⟨a,_,h⟩:=List.mem_flatMap.1 hu
 exact E.one a u h
theorem Enc.all_get (E:Enc α) (xs:List α) (i j:Nat) (x:α) (hx:xs[i]?=some x) (hj:j < E.sz):(E.all xs)[i * E.sz+j]?=(E.enc x)[j]?:=by
 induction xs generalizing i with
 | nil=>simp at hx
 | cons y ys ih =>
  rw [E.all_cons]
  cases i with
  | zero =>
   simp only [List.getElem?_cons_zero,Option.some.injEq] at hx
   subst hx
   rw [List.getElem?_append_left (by rw [E.len];omega)]
   simp
  | succ i =>
   rw [List.getElem?_cons_succ] at hx
   rw [List.getElem?_append_right (by rw [E.len,Nat.succ_mul];omega),E.len,<- ih i hx]
   congr 1
   rw [Nat.succ_mul];omega

def RowE (E:Enc α) (w:World) (v:Value) (xs:List α):Prop :=
 ∃ a cap,v=.slice a xs.length cap/\xs.length<=cap/\cap<=maxLen/\(0 < xs.length->∃ b off,a=some ⟨b,off,none⟩/\b < w.heap.size ∧
  ∀ i u,(E.all xs)[i]?=some u->w.cell? ⟨b,off+i,none⟩=some u)

theorem RowE.ex {E:Enc α} {w w':World} {v:Value} {xs:List α} (h:RowE E w v xs) (g:Ex w w'):RowE E w' v xs:=by
 obtain ⟨a,cap,e,h1,h2,h3⟩:=h
 refine ⟨a,cap,e,h1,h2,fun hp=>?_⟩
 obtain ⟨b,off,e',hb,h4⟩:=h3 hp
 exact ⟨b,off,e',Nat.lt_of_lt_of_le hb g.size,fun i u hu=>g.on (h4 i u hu)⟩
theorem RowE.len {E:Enc α} {w:World} {v:Value} {xs:List α} (h:RowE E w v xs):∃ a cap,v=.slice a xs.length cap/\xs.length<=cap/\cap<=maxLen:=by
 obtain ⟨a,cap,e,h1,h2,_⟩:=h
 exact ⟨a,cap,e,h1,h2⟩
theorem RowE.nil (E:Enc α) (w:World):RowE E w (.slice none 0 0) []:=⟨none,0,rfl,Nat.le_refl _,Nat.zero_le _,fun h=>absurd h (Nat.lt_irrefl _)⟩
theorem RowE.addr {E:Enc α} {w:World} {a:Option Addr} {n cap:Nat} {xs:List α} (h:RowE E w (.slice a n cap) xs) (h0:0 < n):∃ b off,a=some ⟨b,off,none⟩/\b < w.heap.size:=by
 obtain ⟨a',cap',e,_,_,h3⟩:=h
 simp only [Value.slice.injEq] at e
 obtain ⟨rfl,rfl,_⟩:=e
 obtain ⟨b,off,e',hb,_⟩:=h3 h0
 exact ⟨b,off,e',hb⟩
theorem RowE.cell {E:Enc α} {w:World} {b off n cap:Nat} {xs:List α} (h:RowE E w (.slice (some ⟨b,off,none⟩) n cap) xs) {i:Nat} {u:Value} (hu:(E.all xs)[i]?=some u):w.cell? ⟨b,off+i,none⟩=some u:=by
 obtain ⟨a',cap',e,_,_,h3⟩:=h
 simp only [Value.slice.injEq] at e
 obtain ⟨rfl,_,_⟩:=e
 have hl:0 < xs.length:=by
  have h1:=(List.getElem?_eq_some_iff.1 hu).1
  rw [E.all_length] at h1
  rcases Nat.eq_zero_or_pos xs.length with h0 | h0
  ·rw [h0] at h1;omega
  ·exact h0
 obtain ⟨b',off',e',_,h4⟩:=h3 hl
 cases e'
 exact h4 i u hu
theorem RowE.at {E:Enc α} {w:World} {b off n cap:Nat} {xs:List α} (h:RowE E w (.slice (some ⟨b,off,none⟩) n cap) xs) {i j:Nat} {x:α} {u:Value} (hx:xs[i]?=some x) (hj:(E.enc x)[j]?=some u):w.cell? ⟨b,off+(i * E.sz+j),none⟩=some u:=by
 refine h.cell ?_
 have hl:j < E.sz:=by rw [<- E.len x];exact (List.getElem?_eq_some_iff.1 hj).1
 rw [E.all_get xs i j x hx hl,hj]

theorem RowE.of_own {E:Enc α} {w:World} {base:Nat} {e:TypeId} {v:Value} {n:Nat} {xs:List α} (h:w.ownsRow base e E.sz v n (E.all xs)):RowE E w v xs/\xs.length=n:=by
 have hl:xs.length=n:=by
  have:=h.1
  rw [E.all_length] at this
  exact Nat.eq_of_mul_eq_mul_right E.pos this
 refine ⟨?_,hl⟩
 have hc:=@World.ownsRow.cells w base e E.sz v n (E.all xs) h
 rcases h.2 with ⟨rfl,h0⟩ | ⟨g,cap,cur,rfl,_,hg,h2,h3,_,_⟩
 ·have:xs=[]:=List.eq_nil_of_length_eq_zero (by omega)
  subst this
  exact RowE.nil E w
 ·have hlt:g < w.heap.size:=by
   rcases Nat.lt_or_ge g w.heap.size with hlt | hge
   ·exact hlt
   ·rw [Array.getElem?_eq_none hge] at hg;cases hg
  refine ⟨_,cap,by rw [hl],by omega,h3,fun _=>⟨g,0,rfl,hlt,fun i u hu=>?_⟩⟩
  have:=hc (g:=g) rfl i u hu
  have hadd:(⟨g,0,none⟩:Addr).add i=⟨g,i,none⟩:=by unfold Addr.add;split <;> simp_all
  rw [hadd] at this
  simpa using this


theorem RowE.lit (E:Enc α) (w:World) (xs:List α) (e:TypeId) (n:Nat) (h:xs.length=n) (h2:n<=maxLen) (cs:Array Value) (hcs:cs.toList=E.all xs):RowE E (w.alloc (.cells cs e)) (.slice (some ⟨w.heap.size,0,none⟩) n n) xs:=by
 subst h
 refine ⟨_,_,rfl,Nat.le_refl _,h2,fun _=>⟨w.heap.size,0,rfl,by simp,fun i u hu=>?_⟩⟩
 rw [World.cell?_alloc_at _ _ _ _ rfl,<- hu,<- hcs]
 simp

theorem RowE.lit_at (E:Enc α) (w:World) (xs:List α) (e:TypeId) (n b:Nat) (hb:b=w.heap.size) (h:xs.length=n) (h2:n<=maxLen) (cs:Array Value) (hcs:cs.toList=E.all xs):RowE E (w.alloc (.cells cs e)) (.slice (some ⟨b,0,none⟩) n n) xs:=by
 subst hb;exact RowE.lit E w xs e n h h2 cs hcs
theorem Ex.mk_alloc (w:World) (o:Obj):Ex w (w.alloc o):=(Below.refl _ w).alloc (Nat.le_refl _) _
theorem Ex.al {a b:World} (h:Ex a b) (o:Obj):Ex a (b.alloc o):=Below.alloc h h.size o
theorem Ex.dr {a b:World} (h:Ex a b):Ex a b.drew:=Below.drew h
theorem Ex.st {a b:World} (h:Ex a b) {p:Addr} (hp:a.heap.size<=p.block) (u:Value):Ex a (b.setCell p u):=Below.setCell h hp u
theorem Ex.fz {a b:World} (h:Ex a b) {p:Addr} (hp:p.block < a.heap.size) (hf:a.frozen? p=false):b.frozen? p=false:=(Below.frozen h hp).trans hf
theorem Zc2 {w w1:World} {cs:Array Value} {t:TypeId} (h:Ex (w.alloc (.cells cs t)) w1) (i:Nat) (u:Value) (hu:cs[i]?=some u):w1.cell? ⟨w.heap.size,i,none⟩=some u:=by
 refine h.on ?_
 rw [World.cell?_alloc_at _ _ _ _ rfl]
 simpa using hu
theorem Zih {w w1:World} {cs:Array Value} {t:TypeId} (h:Ex (w.alloc (.cells cs t)) w1) (i:Nat):w1.frozen? ⟨w.heap.size,i,none⟩=false:=by
 rw [Below.frozen h (p:=⟨w.heap.size,i,none⟩) (by simp)]
 have hh:(w.alloc (.cells cs t)).heap[w.heap.size]?=some (.cells cs t (0,0)):=heap_alloc_new w _
 unfold World.frozen?
 simp only [hh]
 simp
theorem box4 {w w1:World} {c0 c1 c2 c3:Value} {t:TypeId} (h:Ex (w.alloc (.cells #[c0,c1,c2,c3] t)) w1) :
  w1.cell? ⟨w.heap.size,0,none⟩=some c0/\w1.cell? ⟨w.heap.size,1,none⟩=some c1/\w1.cell? ⟨w.heap.size,2,none⟩=some c2/\w1.cell? ⟨w.heap.size,3,none⟩=some c3 :=
 ⟨Zc2 h 0 _ rfl,Zc2 h 1 _ rfl,Zc2 h 2 _ rfl,Zc2 h 3 _ rfl⟩
structure Boxes (w W:World) (x0 x1 x2 x3 y0 y1 y2 y3:Value):Prop where
 g:Ex w W
 q:w.heap.size+2<=W.heap.size
 c0:W.cell? ⟨w.heap.size,0,none⟩=some x0
 c1:W.cell? ⟨w.heap.size,1,none⟩=some x1
 c2:W.cell? ⟨w.heap.size,2,none⟩=some x2
 c3:W.cell? ⟨w.heap.size,3,none⟩=some x3
 fq:∀ i,W.frozen? ⟨w.heap.size,i,none⟩=false
 r0:W.cell? ⟨w.heap.size+1,0,none⟩=some y0
 r1:W.cell? ⟨w.heap.size+1,1,none⟩=some y1
 r2:W.cell? ⟨w.heap.size+1,2,none⟩=some y2
 r3:W.cell? ⟨w.heap.size+1,3,none⟩=some y3
 fr:∀ i,W.frozen? ⟨w.heap.size+1,i,none⟩=false
theorem boxes {w W:World} {x0 x1 x2 x3 y0 y1 y2 y3:Value} {t t':TypeId} (h:(w.alloc (.cells #[x0,x1,x2,x3] t)).alloc (.cells #[y0,y1,y2,y3] t')=W):Boxes w W x0 x1 x2 x3 y0 y1 y2 y3:=by
 subst h
 have gA:=Ex.mk_alloc w (.cells #[x0,x1,x2,x3] t)
 have gB:=Ex.mk_alloc (w.alloc (.cells #[x0,x1,x2,x3] t)) (.cells #[y0,y1,y2,y3] t')
 obtain ⟨c0,c1,c2,c3⟩:=box4 gB
 obtain ⟨r0,r1,r2,r3⟩:=box4 (Ex.refl ((w.alloc (.cells #[x0,x1,x2,x3] t)).alloc (.cells #[y0,y1,y2,y3] t')))
 have fr:=fun i=>Zih (Ex.refl ((w.alloc (.cells #[x0,x1,x2,x3] t)).alloc (.cells #[y0,y1,y2,y3] t'))) i
 simp only [World.size_alloc] at r0 r1 r2 r3 fr
 exact ⟨Ex.trans gA gB,by simp,c0,c1,c2,c3,fun i=>Zih gB i,r0,r1,r2,r3,fr⟩
theorem Boxes.ex {w W W':World} {x0 x1 x2 x3 y0 y1 y2 y3:Value} (h:Boxes w W x0 x1 x2 x3 y0 y1 y2 y3) (g:Ex W W'):Boxes w W' x0 x1 x2 x3 y0 y1 y2 y3 :=
 have hq:=h.q
 ⟨Ex.trans h.g g,Nat.le_trans h.q g.size,g.on h.c0,g.on h.c1,g.on h.c2,g.on h.c3,fun i=>g.fz (by show w.heap.size < _;omega) (h.fq i),g.on h.r0,g.on h.r1,g.on h.r2,g.on h.r3,fun i=>g.fz (by show w.heap.size+1 < _;omega) (h.fr i)⟩
theorem Boxes.q0 {w W:World} {x0 x1 x2 x3 y0 y1 y2 y3:Value} (h:Boxes w W x0 x1 x2 x3 y0 y1 y2 y3):w.heap.size < W.heap.size:=by have:=h.q;omega
theorem Boxes.q1 {w W:World} {x0 x1 x2 x3 y0 y1 y2 y3:Value} (h:Boxes w W x0 x1 x2 x3 y0 y1 y2 y3):w.heap.size+1 < W.heap.size:=by have:=h.q;omega
theorem Zfb {w:World} {base base':Nat} {e:TypeId} {size n:Nat} {v:Value} {xs:List Value} (h:w.ownsRow base e size v n xs) (hb:base'<=base):w.ownsRow base' e size v n xs:=by
 refine ⟨h.1,?_⟩
 rcases h.2 with h0 | ⟨g,cap,cur,h1,h2,h3⟩
 ·exact .inl h0
 ·exact .inr ⟨g,cap,cur,h1,by omega,h3⟩

section
variable {P : Program} (w : World)

theorem Zcn (E:Enc α) (base:Nat) (t ty e:TypeId) (i:TypeInfo) (z:Value) (size bytes:Nat) (ht:P.underlying t=some (.slice e)) (hi:P.info? e=some i) (hz:i.zero=some z)
  (hsize:i.size=size) (hby:i.bytes=bytes) (hzs:z.cells.size=size) (hE:E.sz=size)
  (v:Value) (n:Nat) (xs:List Value) (hown:w.ownsRow base e size v n xs)
  (v2:Value) (news:List α) (hr:RowE E w v2 news)
  (h63:n+news.length<=maxLen) (hbytes:(n+news.length) * bytes<=140737488355328) (hbase:base<=w.heap.size) :
  ∃ v' w',(Builtin.append_ #[t,t] ty #[v,v2]).run P w=.ok v' w'/\w'.ownsRow base e size v' (n+news.length) (xs++E.all news)/\w.grownBy w' v.ownBlock ∧
   (v'.ownBlock=v.ownBlock \/ v'.ownBlock=some w.heap.size):=by
 obtain ⟨A,c,rfl,g1,g2,g3⟩:=hr
 rcases A with _ | ad
 ·have hn:news=[]:=by
   rcases Nat.eq_zero_or_pos news.length with h0 | h0
   ·exact List.eq_nil_of_length_eq_zero h0
   ·obtain ⟨b,off,h,_⟩:=g3 h0
    cases h
  subst hn
  exact ⟨v,w,run_append_of_nil w base t ty e i size ht hi v n xs hown c,by simpa using hown,World.grownBy.refl w _,.inl rfl⟩
 ·have hcells:∀ j u,(E.all news)[j]?=some u->w.cell? (ad.add j)=some u:=by
   intro j u hu
   have h0:0 < news.length:=by
    have h1:=(List.getElem?_eq_some_iff.1 hu).1
    rw [E.all_length] at h1
    rcases Nat.eq_zero_or_pos news.length with h0 | h0
    ·rw [h0] at h1;omega
    ·exact h0
   obtain ⟨b,off,h,_,hc⟩:=g3 h0
   cases h
   have hadd:(⟨b,off,none⟩:Addr).add j=⟨b,off+j,none⟩:=by unfold Addr.add;split <;> simp_all
   rw [hadd]
   exact hc j u hu
  obtain ⟨v',w',hrun,h2,h3,_,h5⟩:=run_append_own_at (P:=P) w base t ty e i z size bytes ht hi hz hsize hby hzs (by rw [<- hE];exact E.pos) v n xs hown ad news.length c (E.all news) (by rw [E.all_length,hE]) hcells (E.all_one' news) h63 hbytes hbase
  exact ⟨v',w',hrun,h2,h3,h5⟩

theorem wp_append_rowE {o:Oper} {a:Act} {K:Act->World->Prop} {Q:Exit->Act->World->Prop} (E:Enc α) (s x:Operand) (t:TypeId)
  (ho:o.op=.call { callee:=.builtin .append,args:=#[s,x],argTypes:=#[t,t] })
  (base:Nat) (e:TypeId) (i:TypeInfo) (z:Value) (size bytes:Nat) (ht:P.underlying t=some (.slice e)) (hi:P.info? e=some i) (hz:i.zero=some z)
  (hsize:i.size=size) (hby:i.bytes=bytes) (hzs:z.cells.size=size) (hE:E.sz=size)
  (v:Value) (n:Nat) (xs:List Value) (hs:a.eval s=v) (hown:w.ownsRow base e size v n xs)
  (v2:Value) (news:List α) (hx:a.eval x=v2) (hr:RowE E w v2 news)
  (h63:n+news.length<=maxLen) (hbytes:(n+news.length) * bytes<=140737488355328) (W0:World) (hb:Below base W0 w) (hbase:base<=w.heap.size)
  (h:∀ v' w',w'.ownsRow base e size v' (n+news.length) (xs++E.all news)->Below base W0 w'->K (a.put o.dst v') w'):o.wp P a w K Q:=by
 obtain ⟨v',w',hrun,h2,h3,_⟩:=Zcn (P:=P) w E base t o.type e i z size bytes ht hi hz hsize hby hzs hE v n xs hown v2 news hr h63 hbytes hbase
 have hl:=hown.lt
 unfold Oper.wp execOp
 simp only [ho,resolve,invoke,builtin,Sem.run_bind,Sem.run_pure,Result.andThen_ok,List.map_toArray,List.map_cons,List.map_nil,hs,hx,hrun]
 exact h v' w' h2 (hb.grown h3 hbase fun k hk=>(hl k hk).1)

theorem wpList_append_rowE {ops:Array Oper} {rest:List Oper} {o:Oper} {a:Act} {Q:Exit->Act->World->Prop} (hgd:o.guard=none) (E:Enc α) (s x:Operand) (t:TypeId)
  (ho:o.op=.call { callee:=.builtin .append,args:=#[s,x],argTypes:=#[t,t] })
  (base:Nat) (e:TypeId) (i:TypeInfo) (z:Value) (size bytes:Nat) (ht:P.underlying t=some (.slice e)) (hi:P.info? e=some i) (hz:i.zero=some z)
  (hsize:i.size=size) (hby:i.bytes=bytes) (hzs:z.cells.size=size) (hE:E.sz=size)
  (v:Value) (n:Nat) (xs:List Value) (hs:a.eval s=v) (hown:w.ownsRow base e size v n xs)
  (v2:Value) (news:List α) (hx:a.eval x=v2) (hr:RowE E w v2 news)
  (h63:n+news.length<=maxLen) (hbytes:(n+news.length) * bytes<=140737488355328) (W0:World) (hb:Below base W0 w) (hbase:base<=w.heap.size)
  (h:∀ v' w',w'.ownsRow base e size v' (n+news.length) (xs++E.all news)->Below base W0 w'->wpList P ops Q rest (a.put o.dst v') w'):wpList P ops Q (o :: rest) a w :=
 wpList_plain hgd fun _ hK=>wp_append_rowE w E s x t ho base e i z size bytes ht hi hz hsize hby hzs hE v n xs hs hown v2 news hx hr h63 hbytes W0 hb hbase fun v' w' h2 h3=>hK _ _ (h v' w' h2 h3)

end


end Go.Proofs.Ytcaclmdkhffegaa
end
section
/- Texts joined. -/
section
/- Leases as four numbers: how a row of them lies, and the document's reckoning on them; no program. -/
namespace Go.Proofs.Ytcaclmdkhffegaa.lem
open Go.RowKit
abbrev LeM:=Int × Int × Int × Int
def encL:Enc LeM:={ sz:=4,enc:=fun m=>[.int .i64 m.1,.int .i64 m.2.1,.int .i64 m.2.2.1,.int .i64 m.2.2.2],len:=fun _=>rfl,one:=fun _ u hu=>by simp at hu;rcases hu with rfl | rfl | rfl | rfl <;> rfl,pos:=by decide }
def lv (m:LeM):Value:=.agg #[.int .i64 m.1,.int .i64 m.2.1,.int .i64 m.2.2.1,.int .i64 m.2.2.2]
def idx (p:LeM->Bool) (l:List LeM):Int:=match l.findIdx? p with | some i=>(i:Int) | none=>-1
theorem idx_hit {p:LeM->Bool} {l:List LeM} {k:Nat} {x:LeM} (hx:l[k]?=some x) (h:p x=true) (hno:∀ (j:Nat) (y:LeM),j < k->l[j]?=some y->p y=false):idx p l=(k:Int):=by
 have:l.findIdx? p=some k:=by
  rw [List.findIdx?_eq_some_iff_getElem]
  obtain ⟨hk,rfl⟩:=List.getElem?_eq_some_iff.1 hx
  exact ⟨hk,h,fun j hj=>by simpa using hno j _ hj (List.getElem?_eq_getElem (by omega))⟩
 simp [idx,this]
theorem idx_miss {p:LeM->Bool} {l:List LeM} (hno:∀ (j:Nat) (y:LeM),l[j]?=some y->p y=false):idx p l=-1:=by
 have:l.findIdx? p=none:=by
  rw [List.findIdx?_eq_none_iff]
  intro x hx
  obtain ⟨j,hj⟩:=List.mem_iff_getElem?.1 hx
  simpa using hno j x hj
 simp [idx,this]
end Go.Proofs.Ytcaclmdkhffegaa.lem
end
section
/- Who waits: reckoning; no program. -/
namespace Go.Proofs.Ytcaclmdkhffegaa.wlm
open lem
def isW (c f:Int) (x:LeM):Bool:=x.1 == c && x.2.2.1 == f
def isFl (f:Int) (x:LeM):Bool:=x.2.2.1 == f
def dropW (l:List LeM) (c:Int):List LeM:=l.filter fun x=>!(x.1 == c)
def putL (l:List LeM) (x:LeM):Option (List LeM):=match l.findIdx? (isW x.1 x.2.2.1) with
 | some k=>some (dropW (l.take k) x.1++[x]++dropW (l.drop (k+1)) x.1)
 | none=>if (dropW l x.1).length < 4 then some (dropW l x.1++[x]) else none
def putB (l:List LeM) (x:LeM):List LeM × Bool:=match putL l x with | some r=>(r,true) | none=>(l,false)
def Zbn (l:List LeM) (c f:Int):Bool:=match l.find? (isFl f) with | some x=>!(x.1 == c) | none=>false
def putD (l:List LeM) (x:LeM):List LeM × Bool:=match l.findIdx? (isW x.1 x.2.2.1) with
 | some k=>(l.set k x,true)
 | none=>if (dropW l x.1).length < 4 then (dropW l x.1++[x],true) else (l,false)
theorem drop_step {l:List LeM} {i:Nat} (h:i < l.length) (c:Int):dropW (l.take (i+1)) c=dropW (l.take i) c++(if l[i].1=c then [] else [l[i]]):=by
 rw [dropW,List.take_add_one,List.getElem?_eq_getElem h,List.filter_append]
 simp only [Option.toList_some,List.filter_cons,List.filter_nil,dropW]
 by_cases h1:l[i].1=c <;> simp [h1]
theorem Zdn (l:List LeM) (c:Int):(dropW l c).length<=l.length:=List.length_filter_le _ _
theorem put_len {l:List LeM} (x:LeM) (h:l.length<=4):(putB l x).1.length<=4:=by
 unfold putB putL
 cases hf:l.findIdx? (isW x.1 x.2.2.1) with
 | some k =>
  obtain ⟨hk,_⟩:=List.findIdx?_eq_some_iff_getElem.1 hf
  have h1:=Zdn (l.take k) x.1
  have h2:=Zdn (l.drop (k+1)) x.1
  rw [List.length_take] at h1
  rw [List.length_drop] at h2
  simp only [List.length_append,List.length_cons,List.length_nil]
  omega
 | none =>
  simp only
  split
  ·rename_i r h1
   split at h1
   ·cases h1
    simp only [List.length_append,List.length_cons,List.length_nil]
    omega
   ·cases h1
  ·exact h
def U (l:List LeM):Prop:=(l.map (·.1)).Nodup
theorem u_nil:U []:=List.nodup_nil
theorem u_drop {l:List LeM} (h:U l) (c:Int):U (dropW l c):=List.Nodup.sublist (List.Sublist.map _ List.filter_sublist) h
theorem Zhy {l:List LeM} {c:Int} (h:∀ x ∈ l,x.1 ≠ c):dropW l c=l:=List.filter_eq_self.2 fun x hx=>by simpa using h x hx
theorem at_k {l:List LeM} {x:LeM} {k:Nat} (h:l.findIdx? (isW x.1 x.2.2.1)=some k):∃ hk:k < l.length,l[k].1=x.1/\l[k].2.2.1=x.2.2.1:=by
 obtain ⟨hk,hp,_⟩:=List.findIdx?_eq_some_iff_getElem.1 h
 simp only [isW,Bool.and_eq_true,beq_iff_eq] at hp
 exact ⟨hk,hp⟩
theorem Zq3 {l:List LeM} (h:U l) (x:LeM):putB l x=putD l x:=by
 unfold putB putL putD
 cases hf:l.findIdx? (isW x.1 x.2.2.1) with
 | some k =>
  obtain ⟨hk,h1,_⟩:=at_k hf
  have hs:l=l.take k++l[k] :: l.drop (k+1):=by rw [List.getElem_cons_drop,List.take_append_drop]
  have hU:U (l.take k++l[k] :: l.drop (k+1)):=by rw [<- hs];exact h
  simp only [U,List.map_append,List.map_cons] at hU
  obtain ⟨_,h3,h4⟩:=List.nodup_append.1 hU
  have e1:dropW (l.take k) x.1=l.take k:=Zhy fun y hy he=>h4 y.1 (List.mem_map_of_mem hy) l[k].1 (List.mem_cons_self ..) (by rw [he,h1])
  have e2:dropW (l.drop (k+1)) x.1=l.drop (k+1):=Zhy fun y hy he=>(List.nodup_cons.1 h3).1 (by rw [h1,<- he];exact List.mem_map_of_mem hy)
  simp only [e1,e2,List.append_assoc,List.singleton_append]
  rw [List.set_eq_take_append_cons_drop,if_pos hk]
 | none =>
  simp only
  split
  ·rename_i r h1
   split at h1
   ·rename_i h4;cases h1;rw [if_pos h4]
   ·cases h1
  ·rename_i h1
   split at h1
   ·cases h1
   ·rename_i h4;rw [if_neg h4]
theorem u_put {l:List LeM} (h:U l) (x:LeM):U (putB l x).1:=by
 rw [Zq3 h]
 unfold putD
 cases hf:l.findIdx? (isW x.1 x.2.2.1) with
 | some k =>
  obtain ⟨hk,h1,_⟩:=at_k hf
  simp only [U]
  rw [List.map_set,<- h1]
  have:(l.map (·.1)).set k l[k].1=l.map (·.1):=by
   apply List.ext_getElem (by simp)
   intro i h2 h3
   rw [List.getElem_set]
   split
   ·rename_i e;subst e;simp
   ·rfl
  rw [this]
  exact h
 | none =>
  simp only
  split
  ·simp only [U,List.map_append,List.map_cons,List.map_nil]
   rw [List.nodup_append]
   refine ⟨u_drop h _,by simp,?_⟩
   intro a ha b hb he
   simp only [List.mem_singleton] at hb
   subst hb;subst he
   obtain ⟨y,hy,hyc⟩:=List.mem_map.1 ha
   simp only [dropW,List.mem_filter] at hy
   simp [hyc] at hy
  ·exact h
end Go.Proofs.Ytcaclmdkhffegaa.wlm
end
end
