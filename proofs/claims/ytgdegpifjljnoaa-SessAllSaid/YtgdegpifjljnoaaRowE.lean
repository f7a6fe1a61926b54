/- Slices of values of any number of cells, that are read, and slices of the call's own. -/
import Derived.Test.YtgdegpifjljnoaaRow
import Derived.Maps.AppendAt
import Derived.Deep.AppendLies
namespace Go.Proofs.Ytgdegpifjljnoaa
set_option maxRecDepth 100000
open Go.RowKit

structure Enc (α:Type) where
 sz:Nat
 enc:α->List Value
 len:∀ a,(enc a).length=sz
 one:∀ a,∀ u ∈ enc a,u.oneCell'=true
 pos:0 < sz

variable {α : Type}

def Enc.all (E:Enc α) (xs:List α):List Value:=xs.flatMap E.enc

@[simp] theorem Enc.all_nil (E:Enc α):E.all []=[]:=rfl
theorem Enc.all_append (E:Enc α) (xs ys:List α):E.all (xs++ys)=E.all xs++E.all ys:=by simp [Enc.all]
theorem Enc.all_cons (E:Enc α) (x:α) (ys:List α):E.all (x :: ys)=E.enc x++E.all ys:=by simp [Enc.all]
theorem Enc.all_length (E:Enc α) (xs:List α):(E.all xs).length=xs.length * E.sz:=by
 induction xs with
 | nil=>simp
 | cons x xs ih=>rw [E.all_cons,List.length_append,ih,E.len,List.length_cons,Nat.succ_mul];omega
theorem Enc.all_one' (E:Enc α) (xs:List α):∀ u ∈ E.all xs,u.oneCell'=true:=by
 intro u hu
 obtain ⟨a,_,h⟩:=List.mem_flatMap.1 hu
 exact E.one a u h
theorem Enc.all_get (E:Enc α) (xs:List α) (i j:Nat) (x:α) (hx:xs[i]?=some x) (hj:j < E.sz):(E.all xs)[i * E.sz+j]?=(E.enc x)[j]?:=by
 induction xs generalizing i with
 | nil=>simp at hx
 | cons y ys ih =>
  rw [E.all_cons]
  cases i with
  | zero =>
   simp only [List.getElem?_cons_zero,Option.some.injEq] at hx
   subst hx
   rw [List.getElem?_append_left (by rw [E.len];omega)]
   simp
  | succ i =>
   rw [List.getElem?_cons_succ] at hx
   rw [List.getElem?_append_right (by rw [E.len,Nat.succ_mul];omega),E.len,<- ih i hx]
   congr 1
   rw [Nat.succ_mul];omega

def RowE (E:Enc α) (w:World) (v:Value) (xs:List α):Prop :=
 ∃ a cap,v=.slice a xs.length cap/\xs.length<=cap/\cap<=maxLen/\(0 < xs.length->∃ b off,a=some ⟨b,off,none⟩/\b < w.heap.size ∧
  ∀ i u,(E.all xs)[i]?=some u->w.cell? ⟨b,off+i,none⟩=some u)

theorem RowE.ex {E:Enc α} {w w':World} {v:Value} {xs:List α} (h:RowE E w v xs) (g:Ex w w'):RowE E w' v xs:=by
 obtain ⟨a,cap,e,h1,h2,h3⟩:=h
 refine ⟨a,cap,e,h1,h2,fun hp=>?_⟩
 obtain ⟨b,off,e',hb,h4⟩:=h3 hp
 exact ⟨b,off,e',Nat.lt_of_lt_of_le hb g.size,fun i u hu=>g.on (h4 i u hu)⟩
theorem RowE.len {E:Enc α} {w:World} {v:Value} {xs:List α} (h:RowE E w v xs):∃ a cap,v=.slice a xs.length cap/\xs.length<=cap/\cap<=maxLen:=by
 obtain ⟨a,cap,e,h1,h2,_⟩:=h
 exact ⟨a,cap,e,h1,h2⟩
theorem RowE.nil (E:Enc α) (w:World):RowE E w (.slice none 0 0) []:=⟨none,0,rfl,Nat.le_refl _,Nat.zero_le _,fun h=>absurd h (Nat.lt_irrefl _)⟩
theorem RowE.cell {E:Enc α} {w:World} {b off n cap:Nat} {xs:List α} (h:RowE E w (.slice (some ⟨b,off,none⟩) n cap) xs) {i:Nat} {u:Value} (hu:(E.all xs)[i]?=some u):w.cell? ⟨b,off+i,none⟩=some u:=by
 obtain ⟨a',cap',e,_,_,h3⟩:=h
 simp only [Value.slice.injEq] at e
 obtain ⟨rfl,_,_⟩:=e
 have hl:0 < xs.length:=by
  have h1:=(List.getElem?_eq_some_iff.1 hu).1
  rw [E.all_length] at h1
  rcases Nat.eq_zero_or_pos xs.length with h0 | h0
  ·rw [h0] at h1;omega
  ·exact h0
 obtain ⟨b',off',e',_,h4⟩:=h3 hl
 cases e'
 exact h4 i u hu
theorem RowE.at {E:Enc α} {w:World} {b off n cap:Nat} {xs:List α} (h:RowE E w (.slice (some ⟨b,off,none⟩) n cap) xs) {i j:Nat} {x:α} {u:Value} (hx:xs[i]?=some x) (hj:(E.enc x)[j]?=some u):w.cell? ⟨b,off+(i * E.sz+j),none⟩=some u:=by
 refine h.cell ?_
 have hl:j < E.sz:=by rw [<- E.len x];exact (List.getElem?_eq_some_iff.1 hj).1
 rw [E.all_get xs i j x hx hl,hj]



theorem RowE.lit (E:Enc α) (w:World) (xs:List α) (e:TypeId) (n:Nat) (h:xs.length=n) (h2:n<=maxLen) (cs:Array Value) (hcs:cs.toList=E.all xs):RowE E (w.alloc (.cells cs e)) (.slice (some ⟨w.heap.size,0,none⟩) n n) xs:=by
 subst h
 refine ⟨_,_,rfl,Nat.le_refl _,h2,fun _=>⟨w.heap.size,0,rfl,by simp,fun i u hu=>?_⟩⟩
 rw [World.cell?_alloc_at _ _ _ _ rfl,<- hu,<- hcs]
 simp

theorem Ex.mk_alloc (w:World) (o:Obj):Ex w (w.alloc o):=(Below.refl _ w).alloc (Nat.le_refl _) _
theorem Ex.st {a b:World} (h:Ex a b) {p:Addr} (hp:a.heap.size<=p.block) (u:Value):Ex a (b.setCell p u):=Below.setCell h hp u
theorem Ex.fz {a b:World} (h:Ex a b) {p:Addr} (hp:p.block < a.heap.size) (hf:a.frozen? p=false):b.frozen? p=false:=(Below.frozen h hp).trans hf
theorem Zin {w w1:World} {cs:Array Value} {t:TypeId} (h:Ex (w.alloc (.cells cs t)) w1) (i:Nat) (u:Value) (hu:cs[i]?=some u):w1.cell? ⟨w.heap.size,i,none⟩=some u:=by
 refine h.on ?_
 rw [World.cell?_alloc_at _ _ _ _ rfl]
 simpa using hu
theorem box_frozen {w w1:World} {cs:Array Value} {t:TypeId} (h:Ex (w.alloc (.cells cs t)) w1) (i:Nat):w1.frozen? ⟨w.heap.size,i,none⟩=false:=by
 rw [Below.frozen h (p:=⟨w.heap.size,i,none⟩) (by simp)]
 have hh:(w.alloc (.cells cs t)).heap[w.heap.size]?=some (.cells cs t (0,0)):=heap_alloc_new w _
 unfold World.frozen?
 simp only [hh]
 simp
theorem box4 {w w1:World} {c0 c1 c2 c3:Value} {t:TypeId} (h:Ex (w.alloc (.cells #[c0,c1,c2,c3] t)) w1) :
  w1.cell? ⟨w.heap.size,0,none⟩=some c0/\w1.cell? ⟨w.heap.size,1,none⟩=some c1/\w1.cell? ⟨w.heap.size,2,none⟩=some c2/\w1.cell? ⟨w.heap.size,3,none⟩=some c3 :=
 ⟨Zin h 0 _ rfl,Zin h 1 _ rfl,Zin h 2 _ rfl,Zin h 3 _ rfl⟩
structure Boxes (w W:World) (x0 x1 x2 x3 y0 y1 y2 y3:Value):Prop where
 g:Ex w W
 q:w.heap.size+2<=W.heap.size
 c0:W.cell? ⟨w.heap.size,0,none⟩=some x0
 c1:W.cell? ⟨w.heap.size,1,none⟩=some x1
 c2:W.cell? ⟨w.heap.size,2,none⟩=some x2
 c3:W.cell? ⟨w.heap.size,3,none⟩=some x3
 fq:∀ i,W.frozen? ⟨w.heap.size,i,none⟩=false
 r0:W.cell? ⟨w.heap.size+1,0,none⟩=some y0
 r1:W.cell? ⟨w.heap.size+1,1,none⟩=some y1
 r2:W.cell? ⟨w.heap.size+1,2,none⟩=some y2
 r3:W.cell? ⟨w.heap.size+1,3,none⟩=some y3
 fr:∀ i,W.frozen? ⟨w.heap.size+1,i,none⟩=false
theorem boxes {w W:World} {x0 x1 x2 x3 y0 y1 y2 y3:Value} {t t':TypeId} (h:(w.alloc (.cells #[x0,x1,x2,x3] t)).alloc (.cells #[y0,y1,y2,y3] t')=W):Boxes w W x0 x1 x2 x3 y0 y1 y2 y3:=by
 subst h
 have gA:=Ex.mk_alloc w (.cells #[x0,x1,x2,x3] t)
 have gB:=Ex.mk_alloc (w.alloc (.cells #[x0,x1,x2,x3] t)) (.cells #[y0,y1,y2,y3] t')
 obtain ⟨c0,c1,c2,c3⟩:=box4 gB
 obtain ⟨r0,r1,r2,r3⟩:=box4 (Ex.refl ((w.alloc (.cells #[x0,x1,x2,x3] t)).alloc (.cells #[y0,y1,y2,y3] t')))
 have fr:=fun i=>box_frozen (Ex.refl ((w.alloc (.cells #[x0,x1,x2,x3] t)).alloc (.cells #[y0,y1,y2,y3] t'))) i
 simp only [World.size_alloc] at r0 r1 r2 r3 fr
 exact ⟨Ex.trans gA gB,by simp,c0,c1,c2,c3,fun i=>box_frozen gB i,r0,r1,r2,r3,fr⟩
theorem Boxes.ex {w W W':World} {x0 x1 x2 x3 y0 y1 y2 y3:Value} (h:Boxes w W x0 x1 x2 x3 y0 y1 y2 y3) (g:Ex W W'):Boxes w W' x0 x1 x2 x3 y0 y1 y2 y3 :=
 have hq:=h.q
 ⟨Ex.trans h.g g,Nat.le_trans h.q g.size,g.on h.c0,g.on h.c1,g.on h.c2,g.on h.c3,fun i=>g.fz (by show w.heap.size < _;omega) (h.fq i),g.on h.r0,g.on h.r1,g.on h.r2,g.on h.r3,fun i=>g.fz (by show w.heap.size+1 < _;omega) (h.fr i)⟩
theorem Boxes.q0 {w W:World} {x0 x1 x2 x3 y0 y1 y2 y3:Value} (h:Boxes w W x0 x1 x2 x3 y0 y1 y2 y3):w.heap.size < W.heap.size:=by have:=h.q;omega
theorem Boxes.q1 {w W:World} {x0 x1 x2 x3 y0 y1 y2 y3:Value} (h:Boxes w W x0 x1 x2 x3 y0 y1 y2 y3):w.heap.size+1 < W.heap.size:=by have:=h.q;omega

section
variable {P : Program} (w : World)




end


end Go.Proofs.Ytgdegpifjljnoaa
