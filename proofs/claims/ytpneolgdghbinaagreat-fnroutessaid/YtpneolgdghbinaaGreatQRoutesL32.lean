/- A balancer that may be: its pool is what its journal tells. -/
import Derived.Test.YtpneolgdghbinaaGreatQRoutesL31
import Derived.Test.YtpneolgdghbinaaGreatQRoutesL29
namespace Go.Proofs.YtpneolgdghbinaaGreat
open Go.ChangeShapes Go.WideShapes Go.ChangeAt Go.RowKit Go.Joins
set_option linter.unusedVariables false
set_option linter.unusedSimpArgs false
set_option maxRecDepth 100000
set_option maxHeartbeats 40000000
theorem Q7O (aa bb:List (List Int)):∀k,0≤Q0U aa bb k
 |0=> Int.le_refl _
 |k+1=> by
  have h:=Q7O aa bb k;unfold Q0U
  split <;> omega
theorem Q6v {aa bb:List (List Int)}:∀k,Q0U aa bb k=0→∀i,i < k→aa.getD i []=bb.getD i []
 |0,_,i,hi=> absurd hi (Nat.not_lt_zero _)
 |k+1,h,i,hi=> by
  have a:=Q7O aa bb k;unfold Q0U at h
  split at h
  ·next e=>
   by_cases hk:i=k
   ·rw [hk];exact e
   ·exact Q6v k (by omega) i (by omega)
  ·omega
theorem QcO {aa bb:List (List Int)} (h:Q10 aa bb=0):aa=bb:=by
 unfold Q10 at h
 split at h
 ·next e=>
  refine List.ext_getElem (by omega) (fun i a h2=> ?_);have b:=Q6v 8 h i (by omega)
  simpa [a,h2] using b
 ·omega
theorem QeX {c d:Pm} (h:Q1N c d=true):c=d:=by
 unfold Q1N Q1h at h;simp only [Bool.and_eq_true,decide_eq_true_eq,List.all_eq_true,List.mem_range,beq_iff_eq] at h;obtain ⟨⟨f,h2⟩,g,j⟩:=h;obtain ⟨n,q,l⟩:=c;obtain ⟨p,l2,m⟩:=d;dsimp only at f h2 g j;subst f h2
 have e:l=m:=List.ext_getElem g (fun i a b=> by
  have k:=QcO (j i a)
  simpa [a,b] using k)
 rw [e]
theorem Q4K {m:Bm} (h:Q2g m=true):Q0l m.j.key m.j.l m.j.safe=true:=by
 unfold Q2g at h;rw [Bool.and_eq_true] at h;exact h.1
theorem Q2x {m:Bm} (h:Q2g m=true):m.p=Q0F m.j:=by
 unfold Q2g at h;simp only [Bool.and_eq_true] at h;exact (QeX h.2.2).symm
theorem Q4t {m:Bm} (h:Q2g m=true):Q1F m.p=true:=by
 rw [Q2x h];exact Q42 (Q4K h)
theorem Q5G {m:Bm} (h:Q2g m=true):Q2f m.p:=by
 rw [Q2x h];exact Q4G _
theorem Qcl {m:Bm} (h:Q2g m=true) (a b:Int):(Q1w m.t a b).2=true→0≤(QaC m.t a b).v:=fun c=> by
 have i:=Q2t h;have f:=(Q0g.1 i).2.2
 rcases Q2i m.t (Q3T h) a b with e|⟨k,g,⟨e,_⟩|⟨e,_⟩⟩
 ·rw [e] at c;cases c
 ·rw [e] at c;cases c
 ·rw [Qc6 e]
  have d:=f k g;unfold Q44 at d;rw [Bool.and_eq_true] at d;exact Qf0 d.1
end Go.Proofs.YtpneolgdghbinaaGreat
