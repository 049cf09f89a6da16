/- A balancer that may be: its pool is what its journal tells. -/
import Derived.Test.YtpneolgdghbinaaGreatQLearnsL33
import Derived.Test.YtpneolgdghbinaaGreatQLearnsL31
namespace Go.Proofs.YtpneolgdghbinaaGreat
open Go.ChangeShapes Go.WideShapes Go.ChangeAt Go.RowKit Go.Joins
set_option linter.unusedVariables false
set_option linter.unusedSimpArgs false
set_option maxRecDepth 100000
set_option maxHeartbeats 40000000
theorem Q73 (aa bb:List (List Int)):∀k,0≤Q0V aa bb k
 |0=> Int.le_refl _
 |k+1=> by
  have h:=Q73 aa bb k;unfold Q0V
  split <;> omega
theorem Q6C {aa bb:List (List Int)}:∀k,Q0V aa bb k=0→∀i,i < k→aa.getD i []=bb.getD i []
 |0,_,i,hi=> absurd hi (Nat.not_lt_zero _)
 |k+1,h,i,hi=> by
  have a:=Q73 aa bb k;unfold Q0V at h
  split at h
  ·next e=>
   by_cases hk:i=k
   ·rw [hk];exact e
   ·exact Q6C k (by omega) i (by omega)
  ·omega
theorem QcX {aa bb:List (List Int)} (h:Q1i aa bb=0):aa=bb:=by
 unfold Q1i at h
 split at h
 ·next e=>
  refine List.ext_getElem (by omega) (fun i b h2=> ?_);have a:=Q6C 8 h i (by omega)
  simpa [b,h2] using a
 ·omega
theorem Qev {d c:Pm} (h:Q3y d c=true):d=c:=by
 unfold Q3y Q1z at h;simp only [Bool.and_eq_true,decide_eq_true_eq,List.all_eq_true,List.mem_range,beq_iff_eq] at h;obtain ⟨⟨j,h2⟩,f,g⟩:=h;obtain ⟨n,q,l⟩:=d;obtain ⟨p,l2,m⟩:=c;dsimp only at j h2 f g;subst j h2
 have e:l=m:=List.ext_getElem f (fun i a b=> by
  have k:=QcX (g i a)
  simpa [a,b] using k)
 rw [e]
theorem Q4Q {m:Bm} (h:Q2h m=true):Q0s m.j.key m.j.l m.j.safe=true:=by
 unfold Q2h at h;rw [Bool.and_eq_true] at h;exact h.1
theorem Q2x {m:Bm} (h:Q2h m=true):m.p=Q0Q m.j:=by
 unfold Q2h at h;simp only [Bool.and_eq_true] at h;exact (Qev h.2.2).symm
theorem Q5F {m:Bm} (h:Q2h m=true):Q28 m.p=true:=by
 rw [Q2x h];exact Q41 (Q4Q h)
theorem Q5q {m:Bm} (h:Q2h m=true):Q3q m.p:=by
 rw [Q2x h];exact Q6b _
theorem QgL {m:Bm} (h:Q2h m=true) (a b:Int):(Q0Z m.t a b).2=true→0≤(Q6j m.t a b).v:=fun c=> by
 have g:=Q1N h;have f:=(Q07.1 g).2.2
 rcases Q1f m.t (Q40 h) a b with e|⟨k,i,⟨e,_⟩|⟨e,_⟩⟩
 ·rw [e] at c;cases c
 ·rw [e] at c;cases c
 ·rw [QcN e]
  have d:=f k i;unfold Q3s at d;rw [Bool.and_eq_true] at d;exact Qeh d.1
end Go.Proofs.YtpneolgdghbinaaGreat
