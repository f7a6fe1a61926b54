/- Texts joined. -/
import Derived.Test.YtgdegpifjljnoaaMrg4
import Derived.Test.YtgdegpifjljnoaaEng31
section
/- What is written into a file: file.All. -/
namespace Go.Proofs.Ytgdegpifjljnoaa.fil
open Go Go.RowKit eng SX Fact
set_option linter.unusedVariables false
set_option linter.unusedSimpArgs false
set_option maxRecDepth 1000000

def encW:Enc (Int × ByteArray):={ sz:=2,enc:=fun p=>[.int .i64 p.1,.string p.2],len:=fun _=>rfl,one:=fun _ u hu=>by simp at hu;rcases hu with rfl | rfl <;> rfl,pos:=by decide }
def grown (l:List UInt8) (n:Nat):List UInt8:=l++List.replicate (n - l.length) 0
def over (m x:List UInt8) (o:Nat):List UInt8:=m.take o++x++m.drop (o+x.length)

def EAll (k:Nat):FnE:={ k:=k,ins:=[none,none],leaks:=[false,false],outs:=[none],kinds:=[.num] }
theorem encW_inj:∀ xs ys:List (Int × ByteArray),encW.all xs=encW.all ys->xs=ys
 | [],[],_=>rfl
 | [],_ :: _,h=>by simp [Enc.all,encW] at h
 | _ :: _,[],h=>by simp [Enc.all,encW] at h
 | x :: xs,y :: ys,h=>by
  rw [Enc.all_cons,Enc.all_cons] at h
  obtain ⟨h1,h2⟩:=List.append_inj h (by rw [encW.len,encW.len])
  simp only [encW,List.cons.injEq,Value.int.injEq,Value.string.injEq,true_and,and_true] at h1
  rw [Prod.ext h1.1 h1.2,encW_inj xs ys h2]
end Go.Proofs.Ytgdegpifjljnoaa.fil
end
section
/- Texts joined. -/
section
/- Law 17's begun, by a closed run. -/
namespace Go.Proofs.Ytgdegpifjljnoaa.sbg
open Go Go.RowKit eng SX Fact fil
set_option linter.unusedVariables false
set_option maxRecDepth 1000000
theorem ranB:Zjn (runTo Try.prog fil.noOrc 100000 7 (ETrue 8) [] [] hStop)=true:=by kernel_rfl
theorem begunLit (k:Nat):ToldF 7 (ETrue 8) (spec RTrue):=told_lit fil.mixed_ok fil.names_ok fil.noOrc_ok (fun ps qs h=>Zbk h) ranB
end Go.Proofs.Ytgdegpifjljnoaa.sbg
end
section
/- SessForms: the law, by a closed run. -/
namespace Go.Proofs.Ytgdegpifjljnoaa.sessForms
open Go Go.RowKit eng SX Fact fil
set_option linter.unusedVariables false
set_option maxRecDepth 1000000
theorem ranF:Zjn (runTo Try.prog fil.noOrc 100000 5 (ETrue 9) [] [] hStop)=true:=by kernel_rfl
theorem told:ToldF 5 (ETrue 9) (spec RTrue):=told_lit fil.mixed_ok fil.names_ok fil.noOrc_ok (fun ps qs h=>Zbk h) ranF
theorem walk (w:World):Calls Try.prog 5 #[] w fun e w'=>e=.returned (.bool true)/\Ex w w':=by
 refine Zgv told rfl (us:=[]) (ps:=[]) (Zbv fTrue ⟨rfl,rfl⟩) rfl rfl (fun i p u hp hu=>by simp at hp)
end Go.Proofs.Ytgdegpifjljnoaa.sessForms
end
end
