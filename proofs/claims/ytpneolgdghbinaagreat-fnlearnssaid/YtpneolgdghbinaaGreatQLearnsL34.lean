/- A balancer that may be: its pool is what its journal tells. -/
import Derived.Test.YtpneolgdghbinaaGreatQLearnsL33
import Derived.Test.YtpneolgdghbinaaGreatQLearnsL31
namespace Go.Proofs.YtpneolgdghbinaaGreat
open Go.ChangeShapes Go.WideShapes Go.ChangeAt Go.RowKit Go.Joins
set_option linter.unusedVariables false
set_option linter.unusedSimpArgs false
set_option maxRecDepth 100000
set_option maxHeartbeats 40000000
theorem Q7w (aa bb:List (List Int)):∀k,0≤Q0V aa bb k
 |0=> Int.le_refl _
 |k+1=> by
  have h:=Q7w aa bb k;unfold Q0V
  split <;> omega
theorem Q6y {aa bb:List (List Int)}:∀k,Q0V aa bb k=0→∀i,i < k→aa.getD i []=bb.getD i []
 |0,_,i,hi=> absurd hi (Nat.not_lt_zero _)
 |k+1,h,i,hi=> by
  have a:=Q7w aa bb k;unfold Q0V at h
  split at h
  ·next e=>
   by_cases hk:i=k
   ·rw [hk];exact e
   ·exact Q6y k (by omega) i (by omega)
  ·omega
theorem QdF {aa bb:List (List Int)} (h:Q1k aa bb=0):aa=bb:=by
 unfold Q1k at h
 split at h
 ·next e=>
  refine List.ext_getElem (by omega) (fun i a h2=> ?_);have b:=Q6y 8 h i (by omega)
  simpa [a,h2] using b
 ·omega
theorem QfW {c d:Pm} (h:Q3M c d=true):c=d:=by
 unfold Q3M Q1z at h;simp only [Bool.and_eq_true,decide_eq_true_eq,List.all_eq_true,List.mem_range,beq_iff_eq] at h;obtain ⟨⟨f,h2⟩,g,j⟩:=h;obtain ⟨n,q,l⟩:=c;obtain ⟨p,l2,m⟩:=d;dsimp only at f h2 g j;subst f h2
 have e:l=m:=List.ext_getElem g (fun i a b=> by
  have k:=QdF (j i a)
  simpa [a,b] using k)
 rw [e]
theorem Q4Q {m:Bm} (h:Q2g m=true):Q0s m.j.key m.j.l m.j.safe=true:=by
 unfold Q2g at h;rw [Bool.and_eq_true] at h;exact h.1
theorem Q2v {m:Bm} (h:Q2g m=true):m.p=Q0Q m.j:=by
 unfold Q2g at h;simp only [Bool.and_eq_true] at h;exact (QfW h.2.2).symm
theorem Q5z {m:Bm} (h:Q2g m=true):Q27 m.p=true:=by
 rw [Q2v h];exact Q44 (Q4Q h)
theorem Q5K {m:Bm} (h:Q2g m=true):Q3q m.p:=by
 rw [Q2v h];exact Q5Z _
theorem Qha {m:Bm} (h:Q2g m=true) (a b:Int):(Q0Z m.t a b).2=true→0≤(Q6a m.t a b).v:=fun c=> by
 have i:=Q1N h;have f:=(Q07.1 i).2.2
 rcases Q1f m.t (Q3R h) a b with e|⟨k,g,⟨e,_⟩|⟨e,_⟩⟩
 ·rw [e] at c;cases c
 ·rw [e] at c;cases c
 ·rw [Qcq e]
  have d:=f k g;unfold Q3K at d;rw [Bool.and_eq_true] at d;exact QeL d.1
end Go.Proofs.YtpneolgdghbinaaGreat
