/- A box of four cells that is Zgg anew. -/
import Derived.Test.YtpnegheknjeljaaGreatRowE
namespace Go.Proofs.YtpnegheknjeljaaGreat
set_option maxRecDepth 100000
open Go.RowKit

theorem set4 {w1 W:World} {q:Nat} {u0 u1 u2 u3 x0 x1 x2 x3:Value}
  (h:(((w1.setCell ⟨q,0,none⟩ u0).setCell ⟨q,1,none⟩ u1).setCell ⟨q,2,none⟩ u2).setCell ⟨q,3,none⟩ u3=W)
  (k0:w1.cell? ⟨q,0,none⟩=some x0) (k1:w1.cell? ⟨q,1,none⟩=some x1) (k2:w1.cell? ⟨q,2,none⟩=some x2) (k3:w1.cell? ⟨q,3,none⟩=some x3) :
  (W.cell? ⟨q,0,none⟩=some u0/\W.cell? ⟨q,1,none⟩=some u1/\W.cell? ⟨q,2,none⟩=some u2/\W.cell? ⟨q,3,none⟩=some u3) ∧
  (∀ b i,b ≠ q->W.cell? ⟨b,i,none⟩=w1.cell? ⟨b,i,none⟩)/\(∀ b i,W.frozen? ⟨b,i,none⟩=w1.frozen? ⟨b,i,none⟩)/\W.heap.size=w1.heap.size/\(∀ w:World,Ex w w1->w.heap.size<=q->Ex w W) ∧
  (∀ base e size v n xs,w1.ownsRow base e size v n xs->q < base->W.ownsRow base e size v n xs):=by
 subst h
 refine ⟨⟨?_,?_,?_,?_⟩,?_,?_,?_,?_,?_⟩
 ·simp [go_sem,k0]
 ·simp [go_sem,k1]
 ·simp [go_sem,k2]
 ·simp [go_sem,k3]
 ·intro b i hb
  rw [World.cell?_setCell_other _ _ _ _ (fun e=>hb (by cases e;rfl)),World.cell?_setCell_other _ _ _ _ (fun e=>hb (by cases e;rfl)),World.cell?_setCell_other _ _ _ _ (fun e=>hb (by cases e;rfl)),World.cell?_setCell_other _ _ _ _ (fun e=>hb (by cases e;rfl))]
 ·intro b i
  simp only [World.frozen?_setCell]
 ·simp
 ·intro w hw hq
  exact (((hw.st hq _).st hq _).st hq _).st hq _
 ·intro base e size v n xs hown hq
  exact ownsRow_setCell_below (ownsRow_setCell_below (ownsRow_setCell_below (ownsRow_setCell_below hown hq _) hq _) hq _) hq _

theorem own_ne {w:World} {base base':Nat} {e e':TypeId} {size size' n n':Nat} {v v':Value} {xs xs':List Value} (h:w.ownsRow base e size v n xs) (h':w.ownsRow base' e' size' v' n' xs') (hne:e ≠ e'):v.ownBlock=none \/ v.ownBlock ≠ v'.ownBlock:=by
 rcases h.2 with ⟨rfl,_⟩ | ⟨g,cap,cur,rfl,_,hg,_⟩
 ·exact .inl rfl
 ·refine .inr fun he=>?_
  rcases h'.2 with ⟨rfl,_⟩ | ⟨g',cap',cur',rfl,_,hg',_⟩
  ·simp [Value.ownBlock] at he
  ·simp only [Value.ownBlock,Option.some.injEq] at he
   subst he
   rw [hg] at hg'
   simp only [Option.some.injEq,Obj.cells.injEq] at hg'
   exact hne hg'.2.1

section
variable {α : Type} {P : Program} (w : World)
theorem wp_append_rowG {o:Oper} {a:Act} {K:Act->World->Prop} {Q:Exit->Act->World->Prop} (E:Enc α) (s x:Operand) (t:TypeId)
  (ho:o.op=.call { callee:=.builtin .append,args:=#[s,x],argTypes:=#[t,t] })
  (base:Nat) (e:TypeId) (i:TypeInfo) (z:Value) (size bytes:Nat) (ht:P.underlying t=some (.slice e)) (hi:P.info? e=some i) (hz:i.zero=some z)
  (hsize:i.size=size) (hby:i.bytes=bytes) (hzs:z.cells.size=size) (hE:E.sz=size)
  (v:Value) (n:Nat) (xs:List Value) (hs:a.eval s=v) (hown:w.ownsRow base e size v n xs)
  (v2:Value) (news:List α) (hx:a.eval x=v2) (hr:RowE E w v2 news)
  (h63:n+news.length<=maxLen) (hbytes:(n+news.length) * bytes<=140737488355328) (W0:World) (hb:Below base W0 w) (hbase:base<=w.heap.size)
  (h:∀ v' w',w'.ownsRow base e size v' (n+news.length) (xs++E.all news)->Below base W0 w'->w.grownBy w' v.ownBlock->K (a.put o.dst v') w'):o.wp P a w K Q:=by
 obtain ⟨v',w',hrun,h2,h3,_⟩:=run_append_rowE (P:=P) w E base t o.type e i z size bytes ht hi hz hsize hby hzs hE v n xs hown v2 news hr h63 hbytes hbase
 have hl:=hown.lt
 unfold Oper.wp execOp
 simp only [ho,resolve,invoke,builtin,Sem.run_bind,Sem.run_pure,Result.andThen_ok,List.map_toArray,List.map_cons,List.map_nil,hs,hx,hrun]
 exact h v' w' h2 (hb.grown h3 hbase fun k hk=>(hl k hk).1) h3

theorem wpList_append_rowG {ops:Array Oper} {rest:List Oper} {o:Oper} {a:Act} {Q:Exit->Act->World->Prop} (hgd:o.guard=none) (E:Enc α) (s x:Operand) (t:TypeId)
  (ho:o.op=.call { callee:=.builtin .append,args:=#[s,x],argTypes:=#[t,t] })
  (base:Nat) (e:TypeId) (i:TypeInfo) (z:Value) (size bytes:Nat) (ht:P.underlying t=some (.slice e)) (hi:P.info? e=some i) (hz:i.zero=some z)
  (hsize:i.size=size) (hby:i.bytes=bytes) (hzs:z.cells.size=size) (hE:E.sz=size)
  (v:Value) (n:Nat) (xs:List Value) (hs:a.eval s=v) (hown:w.ownsRow base e size v n xs)
  (v2:Value) (news:List α) (hx:a.eval x=v2) (hr:RowE E w v2 news)
  (h63:n+news.length<=maxLen) (hbytes:(n+news.length) * bytes<=140737488355328) (W0:World) (hb:Below base W0 w) (hbase:base<=w.heap.size)
  (h:∀ v' w',w'.ownsRow base e size v' (n+news.length) (xs++E.all news)->Below base W0 w'->w.grownBy w' v.ownBlock->wpList P ops Q rest (a.put o.dst v') w'):wpList P ops Q (o :: rest) a w :=
 wpList_plain hgd fun _ hK=>wp_append_rowG w E s x t ho base e i z size bytes ht hi hz hsize hby hzs hE v n xs hs hown v2 news hx hr h63 hbytes W0 hb hbase fun v' w' h2 h3 h4=>hK _ _ (h v' w' h2 h3 h4)

end

end Go.Proofs.YtpnegheknjeljaaGreat
