/- A balancer that may be: its pool is what its journal tells. -/
import Derived.Test.YtpneolgdghbinaaGreatQCrashesL31
import Derived.Test.YtpneolgdghbinaaGreatQCrashesL29
namespace Go.Proofs.YtpneolgdghbinaaGreat
open Go.ChangeShapes Go.WideShapes Go.ChangeAt Go.RowKit Go.Joins
set_option linter.unusedVariables false
set_option linter.unusedSimpArgs false
set_option maxRecDepth 100000
set_option maxHeartbeats 40000000
theorem Q86 (aa bb:List (List Int)):∀k,0<=Q0W aa bb k
 |0=>Int.le_refl _
 |k+1=>by
  have h:=Q86 aa bb k;unfold Q0W
  split <;> omega
theorem Q6E {aa bb:List (List Int)}:∀k,Q0W aa bb k=0->∀i,i < k->aa.getD i []=bb.getD i []
 |0,_,i,hi=>absurd hi (KMq _)
 |k+1,h,i,hi=>by
  have a:=Q86 aa bb k;unfold Q0W at h
  split at h
  ·next e=>
   by_cases hk:i=k
   ·rw[hk];exact e
   ·exact Q6E k (by omega) i (by omega)
  ·omega
theorem QdE {aa bb:List (List Int)} (h:Q16 aa bb=0):aa=bb:=by
 unfold Q16 at h
 split at h
 ·next e=>
  refine List.ext_getElem (by omega) (fun i a h2=>?_);have b:=Q6E 8 h i (by omega)
  simpa[a,h2]using b
 ·omega
theorem Qf7 {c d:Pm} (h:Q1Q c d=true):c=d:=by
 unfold Q1Q Q1i at h;simp only[Bool.and_eq_true,decide_eq_true_eq,List.all_eq_true,List.mem_range,beq_iff_eq]at h;obtain⟨⟨f,h2⟩,g,j⟩:=h;obtain⟨n,q,l⟩:=c;obtain⟨p,l2,m⟩:=d;dsimp only at f h2 g j;subst f h2
 have e:l=m:=List.ext_getElem g (fun i a b=>by
  have k:=QdE (j i a)
  simpa[a,b]using k)
 rw[e]
theorem Q2G {m:Bm} (h:Q1S m=true):Q0g m.j.key m.j.l m.j.safe=true:=by
 unfold Q1S at h;rw[Bool.and_eq_true]at h;exact h.1
theorem Q1W {m:Bm} (h:Q1S m=true):m.p=Q0z m.j:=by
 unfold Q1S at h;simp only[Bool.and_eq_true]at h;exact(Qf7 h.2.2).symm
theorem Q5S {m:Bm} (h:Q1S m=true):Q1X m.p=true:=by
 rw[Q1W h];exact Q34 (Q2G h)
theorem Q5F {m:Bm} (h:Q1S m=true):Q2B m.p:=by
 rw[Q1W h];exact Q3v _
theorem Qhf {m:Bm} (h:Q1S m=true) (a b:Int):(Q1u m.t a b).2=true->0<=(QbY m.t a b).v:=fun c=>by
 have i:=Q1O h;have f:=(Q0e.1 i).2.2
 rcases Q2p m.t (Q3R h) a b with e|⟨k,g,⟨e,_⟩|⟨e,_⟩⟩
 ·rw[e]at c;cases c
 ·rw[e]at c;cases c
 ·rw[Qce e]
  have d:=f k g;unfold Q41 at d;rw[Bool.and_eq_true]at d;exact QfE d.1
end Go.Proofs.YtpneolgdghbinaaGreat
