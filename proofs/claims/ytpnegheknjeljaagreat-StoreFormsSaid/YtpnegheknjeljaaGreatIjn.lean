/- Texts joined with nothing between (strings.Join of the shelf): told. -/
import Derived.Test.YtpnegheknjeljaaGreatIeq
import Derived.Test.YtpnegheknjeljaaGreatShelf
namespace Go.Proofs.YtpnegheknjeljaaGreat.ijn
open Go Go.RowKit eng SX Fact fil ima symD idf ise sta ieq
set_option linter.unusedVariables false
set_option linter.unusedSimpArgs false
set_option maxRecDepth 1000000

def EJn (k:Nat):FnE:={ k:=k,ins:=[none,none],leaks:=[false,false],outs:=[none],kinds:=[.num] }
@[simp] theorem kJn (k:Nat):(EJn k).k=k:=rfl
def RJn (ps qs:List PV):Prop:=∃ l:List ByteArray,l.length<=1000000/\full l=true/\ps=[pRow encS l,pS ⟨⟨[]⟩⟩]/\qs=[pS (ofL (catB l))]
theorem fJn:∀ ps q1 q2,RJn ps q1->RJn ps q2->q1=q2:=by
 rintro ps q1 q2 ⟨l,_,_,rfl,rfl⟩ ⟨l',_,_,h,rfl⟩
 simp only [List.cons.injEq,and_true] at h
 rw [fil.pRow_inj Zg6 h]
theorem join_nil:∀ l:List (List UInt8),Lib.join l []=l.flatten
 | []=>by simp [Lib.join]
 | [a]=>by simp [Lib.join,List.intercalate]
 | a :: b :: r=>by
  have:=join_nil (b :: r)
  simp only [Lib.join,List.intercalate,List.intersperse_cons_cons,List.flatten_cons,List.nil_append] at this ⊢
  rw [this]
theorem Zmi:∀ l:List ByteArray,full l=true->(catB l).length=32 * l.length
 | [],_=>rfl
 | a :: l,h=>by
  simp only [full,List.all_cons,Bool.and_eq_true,beq_iff_eq] at h
  have:=Zmi l h.2
  have ha:(lst a).length=32:=by rw [<- h.1];rfl
  simp only [catB,List.map_cons,List.flatten_cons,List.length_append,List.length_cons] at this ⊢
  omega
theorem Zo9:∀ l:List ByteArray,encS.all l=l.map Value.string
 | []=>rfl
 | a :: l=>by rw [Enc.all_cons,Zo9 l];rfl
theorem toldJn (k:Nat):ToldF 120 (EJn k) (spec RJn):=by
 intro w FP us ps qs hsp hul hpl hFP hrd
 obtain ⟨l,hl,hf,rfl,rfl⟩:=Zah hsp
 match us,hul with
 | [lv,sv],_ =>
  have h0:=(hrd 0 _ lv rfl rfl).1
  have h1:=(hrd 1 _ sv rfl rfl).1
  have h1:sv=.string ⟨⟨[]⟩⟩:=by simp only [Reads] at h1;exact h1.1
  subst h1
  simp only [pRow,Reads] at h0
  obtain ⟨a,cap,rfl,hc1,hc2,h0⟩:=h0
  have key:Calls Tryz.prog 120 #[.slice a l.length cap,.string ⟨⟨[]⟩⟩] w fun e w'=>e=.returned (.string (ofL (catB l)))/\Ex w w':=by
   have hj:Lib.join (l.map (·.data.toList)) (⟨⟨[]⟩⟩:ByteArray).data.toList=catB l:=join_nil _
   have hjl:=Zmi l hf
   match l,h0,hl,hf,hc1,hj,hjl with
   | [],_,_,_,_,_,_=>exact (Any.strings_Join_none Tryz.lays156 Tryz.Builder_Extra_156 a cap ⟨⟨[]⟩⟩ w).mono fun e w' h=>⟨h.1,h.2 ▸ Below.refl _ _⟩
   | x :: r,h0,hl,hf,hc1,hj,hjl =>
    rcases h0 with hn | ⟨b,off,ha,hr0⟩
    ·rw [Zo9] at hn;cases hn
    ·subst ha
     have hcell:∀ (j:Nat) y,(x :: r)[j]?=some y->w.cell? ⟨b,off+j,none⟩=some (.string y):=by
      intro j y hy
      obtain ⟨u,hu,hr⟩:=Zbb.at hr0 (i:=j) (p:=.v (.string y)) (by rw [Zo9];simp only [List.getElem?_map,hy,Option.map_some])
      simp only [Reads] at hr
      rw [hu,hr.1]
     have hb:b < w.heap.size:=by
      have h:=hcell 0 x rfl
      simp only [World.cell?] at h
      rcases Nat.lt_or_ge b w.heap.size with h' | h'
      ·exact h'
      ·rw [Array.getElem?_eq_none h'] at h;simp at h
     refine (Tryz.strings_Join b off cap (x :: r) ⟨⟨[]⟩⟩ w hcell hb (by omega) hc1 (by rw [hj,hjl];omega)).mono fun e w' h=>?_
     rw [hj] at h
     exact h
  refine key.mono ?_
  rintro e w' ⟨rfl,hex⟩
  refine ⟨[.string (ofL (catB l))],fun _=>none,rfl,rfl,Zdt rfl,fun i q u hq hu w2 hw2=>?_,rfl,hex⟩
  match i,hq,hu with
  | 0,hq,hu =>
   simp at hq hu
   subst hq;subst hu
   exact ⟨rfl,rfl⟩
  | i+1,hq,hu=>simp at hq

end Go.Proofs.YtpnegheknjeljaaGreat.ijn
