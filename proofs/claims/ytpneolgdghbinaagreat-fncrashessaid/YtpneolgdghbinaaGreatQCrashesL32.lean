/- A balancer that may be: its pool is what its journal tells. -/
import Derived.Test.YtpneolgdghbinaaGreatQCrashesL31
import Derived.Test.YtpneolgdghbinaaGreatQCrashesL29
namespace Go.Proofs.YtpneolgdghbinaaGreat
open Go.ChangeShapes Go.WideShapes Go.ChangeAt Go.RowKit Go.Joins
set_option linter.unusedVariables false
set_option linter.unusedSimpArgs false
set_option maxRecDepth 100000
set_option maxHeartbeats 40000000
theorem Q7E (aa bb:List (List Int)):∀k,0<=Q0R aa bb k
 |0=>Int.le_refl _
 |k+1=>by
  have h:=Q7E aa bb k;unfold Q0R
  split <;> omega
theorem Q6s {aa bb:List (List Int)}:∀k,Q0R aa bb k=0->∀i,i < k->aa.getD i []=bb.getD i []
 |0,_,i,hi=>absurd hi (KMq _)
 |k+1,h,i,hi=>by
  have a:=Q7E aa bb k;unfold Q0R at h
  split at h
  ·next e=>
   by_cases hk:i=k
   ·rw[hk];exact e
   ·exact Q6s k (by omega) i (by omega)
  ·omega
theorem Qdr {aa bb:List (List Int)} (h:Q10 aa bb=0):aa=bb:=by
 unfold Q10 at h
 split at h
 ·next e=>
  refine List.ext_getElem (by omega) (fun i a h2=>?_);have b:=Q6s 8 h i (by omega)
  simpa[a,h2]using b
 ·omega
theorem QeS {c d:Pm} (h:Q1I c d=true):c=d:=by
 unfold Q1I Q1d at h;simp only[Bool.and_eq_true,decide_eq_true_eq,List.all_eq_true,List.mem_range,beq_iff_eq]at h;obtain⟨⟨f,h2⟩,g,j⟩:=h;obtain⟨n,q,l⟩:=c;obtain⟨p,l2,m⟩:=d;dsimp only at f h2 g j;subst f h2
 have e:l=m:=List.ext_getElem g (fun i a b=>by
  have k:=Qdr (j i a)
  simpa[a,b]using k)
 rw[e]
theorem Q2x {m:Bm} (h:Q1J m=true):Q0f m.j.key m.j.l m.j.safe=true:=by
 unfold Q1J at h;rw[Bool.and_eq_true]at h;exact h.1
theorem Q1N {m:Bm} (h:Q1J m=true):m.p=Q0x m.j:=by
 unfold Q1J at h;simp only[Bool.and_eq_true]at h;exact(QeS h.2.2).symm
theorem Q5w {m:Bm} (h:Q1J m=true):Q1M m.p=true:=by
 rw[Q1N h];exact Q2V (Q2x h)
theorem Q5r {m:Bm} (h:Q1J m=true):Q2q m.p:=by
 rw[Q1N h];exact Q3u _
theorem Qgv {m:Bm} (h:Q1J m=true) (a b:Int):(Q1n m.t a b).2=true->0<=(Qbd m.t a b).v:=fun c=>by
 have i:=Q1F h;have f:=(Q0d.1 i).2.2
 rcases Q2g m.t (Q3V h) a b with e|⟨k,g,⟨e,_⟩|⟨e,_⟩⟩
 ·rw[e]at c;cases c
 ·rw[e]at c;cases c
 ·rw[Qcp e]
  have d:=f k g;unfold Q3M at d;rw[Bool.and_eq_true]at d;exact Qfv d.1
end Go.Proofs.YtpneolgdghbinaaGreat
