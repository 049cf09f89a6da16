/- A balancer that may be: its pool is what its journal tells. -/
import Derived.Test.YtpneolgdghbinaaGreatQSends33
import Derived.Test.YtpneolgdghbinaaGreatQSends31
namespace Go.Proofs.YtpneolgdghbinaaGreat
open Go.ChangeShapes Go.WideShapes Go.ChangeAt Go.RowKit Go.Joins
set_option linter.unusedVariables false
set_option linter.unusedSimpArgs false
set_option maxRecDepth 100000
set_option maxHeartbeats 40000000
theorem Q6F (aa bb:List (List Int)):∀k,0≤Q0U aa bb k
 |0=> Int.le_refl _
 |k+1=> by
  have h:=Q6F aa bb k
  unfold Q0U
  split <;> omega
theorem Q66 {aa bb:List (List Int)}:∀k,Q0U aa bb k=0→∀i,i < k→aa.getD i []=bb.getD i []
 |0,_,i,hi=> absurd hi (Nat.not_lt_zero _)
 |k+1,h,i,hi=> by
  have h0:=Q6F aa bb k
  unfold Q0U at h
  split at h
  ·next e=>
   by_cases hk:i=k
   ·rw [hk];exact e
   ·exact Q66 k (by omega) i (by omega)
  ·omega
theorem QbK {aa bb:List (List Int)} (h:Q1s aa bb=0):aa=bb:=by
 unfold Q1s at h
 split at h
 ·next e=>
  refine List.ext_getElem (by omega) (fun i h1 h2=> ?_)
  have h3:=Q66 8 h i (by omega)
  simpa [h1,h2] using h3
 ·omega
theorem Qei {m1 m2:Pm} (h:Q3i m1 m2=true):m1=m2:=by
 unfold Q3i Q1l at h
 simp only [Bool.and_eq_true,decide_eq_true_eq,List.all_eq_true,List.mem_range,beq_iff_eq] at h
 obtain ⟨⟨h1,h2⟩,h3,h4⟩:=h;obtain ⟨k1,l1,r1⟩:=m1;obtain ⟨k2,l2,r2⟩:=m2
 dsimp only at h1 h2 h3 h4
 subst h1 h2
 have e:r1=r2:=List.ext_getElem h3 (fun i a b=> by
  have h5:=QbK (h4 i a)
  simpa [a,b] using h5)
 rw [e]
theorem Q4a {m:Bm} (h:Q2i m=true):Q0p m.j.key m.j.l m.j.safe=true:=by
 unfold Q2i at h
 rw [Bool.and_eq_true] at h
 exact h.1
theorem Q2g {m:Bm} (h:Q2i m=true):m.p=Q0I m.j:=by
 unfold Q2i at h
 simp only [Bool.and_eq_true] at h
 exact (Qei h.2.2).symm
theorem Q2O {m:Bm} (h:Q2i m=true):Q21 m.p=true:=by
 rw [Q2g h]
 exact Q3F (Q4a h)
theorem Q4Z {m:Bm} (h:Q2i m=true):Q36 m.p:=by
 rw [Q2g h]
 exact Q5r _
theorem Qb9 {m:Bm} (h:Q2i m=true) (a b:Int):(Q1o m.t a b).2=true→0≤(Q8m m.t a b).v:=fun he=> by
 have ht:=Q29 h;have h3:=(Q0i.1 ht).2.2
 rcases Q23 m.t (Q4d h) a b with e|⟨k,hk,⟨e,_⟩|⟨e,_⟩⟩
 ·rw [e] at he;cases he
 ·rw [e] at he;cases he
 ·rw [Qbz e]
  have h4:=h3 k hk
  unfold Q5m at h4
  rw [Bool.and_eq_true] at h4
  exact Qe4 h4.1
end Go.Proofs.YtpneolgdghbinaaGreat
