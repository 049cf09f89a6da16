/- What the law FnHandles asks, of the model's way with what is carried to an agent. -/
import Derived.Test.YtljogkoaaidlcaaQHandL22
import Derived.Test.YtljogkoaaidlcaaQHandL27
namespace Go.Proofs.Ytljogkoaaidlcaa
open Go.ChangeShapes Go.WideShapes Go.ChangeAt Go.RowKit Go.Joins
set_option linter.unusedVariables false
set_option linter.unusedSimpArgs false
set_option maxRecDepth 100000
set_option maxHeartbeats 40000000
theorem Q4m {l:List Sl} {a p:Int}:∀(f i:Nat),i < l.length→Q2t l a p f i=(-1,false)→∀d,d < f→(l.getD ((i+d) % l.length) sl0).u=true
 |0,i,hi,h,d,hd=> absurd hd (Nat.not_lt_zero d)
 |f+1,i,hi,h,d,hd=> by
  cases hu:(l.getD i sl0).u with
  |false=>
   rw [Q2q hu] at h
   injection h with h _
   omega
  |true=>
   by_cases ho:(l.getD i sl0).a=a∧(l.getD i sl0).p=p
   ·rw [Q2J hu ho.1 ho.2] at h
    injection h with _ h
    cases h
   ·rw [Q2a hu ho] at h
    cases d with
    |zero=> rw [Nat.add_zero,Nat.mod_eq_of_lt hi];exact hu
    |succ d=>
     have:=Q4m f ((i+1) % l.length) (Nat.mod_lt _ (by omega)) h d (by omega)
     rwa [Nat.mod_add_mod,show i+1+d=i+(d+1) by omega] at this
theorem Q43 {l:List Sl} (h:∀x,x < l.length→(l.getD x sl0).u=true):∀k,k≤l.length→Q1E l k=k
 |0,_=> by simp [Q1E]
 |k+1,hk=> by rw [Q39 (by omega),Q43 h k (by omega),if_pos (h k (by omega))]
theorem Q7k {l:List Sl} (hr:Q0y l < l.length) (a p:Int):0≤(Q0m l a p).1:=by
 have hn:0 < l.length:=by omega
 rcases Q0C l hn a p with e|⟨k,hk,⟨e,_⟩|⟨e,_⟩⟩
 ·exfalso
  have hh:=Q0V hn a p
  have hf:=Q4m l.length (Q0B l.length a p) hh e
  have:Q0y l=l.length:=Q43 (fun x hx=> by
   by_cases hle:Q0B l.length a p≤x
   ·have:=hf (x - Q0B l.length a p) (by omega)
    rwa [show Q0B l.length a p+(x - Q0B l.length a p)=x by omega,Nat.mod_eq_of_lt hx] at this
   ·have:=hf (x+l.length - Q0B l.length a p) (by omega)
    rwa [show Q0B l.length a p+(x+l.length - Q0B l.length a p)=x+l.length by omega,Nat.add_mod_right,Nat.mod_eq_of_lt hx] at this) l.length (Kaq _)
  omega
 ·rw [e];exact Int.natCast_nonneg k
 ·rw [e];exact Int.natCast_nonneg k
theorem Q5r {l:List Sl} {a p v t:Int} (h:Q0b l=true) (hf:Q0c a p=true) (hv:0≤v∧v≤100000) (ht:0≤t∧t≤200000) (he:0≤(Q0m l a p).1):(Q0m (Q11 l a p v t) a p).2=true:=by
 have hn:=(Q0d.1 h).1
 rcases Q0C l (by omega) a p with e|⟨k,hk,⟨e,_⟩|⟨e,_⟩⟩
 ·rw [e] at he;exact absurd he (by decide)
 ·rw [Q3h (k:=k) (by rw [e]),Q6X h hf hv ht hk e]
 ·rw [Q3h (k:=k) (by rw [e]),Q6X h hf hv ht hk e]
theorem Q7L {l:List Sl} {a p:Int} (h:Q0b l=true) (he:(Q0m l a p).2=true):(Q0m (Q1N l a p) a p).2=false:=by
 have hn:=(Q0d.1 h).1
 rcases Q0C l (by omega) a p with e|⟨k,hk,⟨e,_⟩|⟨e,_⟩⟩
 ·rw [e] at he;cases he
 ·rw [e] at he;cases he
 ·rw [Q2M e];exact Q75 h e
theorem Q8e {l:List Sl} {a p:Int} (h:Q0b l=true) (he:(Q0m l a p).2=true):0≤(Q0m l a p).1:=by
 have hn:=(Q0d.1 h).1
 rcases Q0C l (by omega) a p with e|⟨k,hk,⟨e,_⟩|⟨e,_⟩⟩
 ·rw [e] at he;cases he
 ·rw [e] at he;cases he
 ·rw [e];exact Int.natCast_nonneg k
theorem Q3B (op:Bool):∀(gg:List (Int × Int)) (p:Int),Q0K op p gg=true→∀i,i < gg.length→(gg.getD i (0,0)).2=1→op=true
 |[],p,h,i,hi,_=> by simp at hi
 |x::l,p,h,i,hi,hs=> by
  unfold Q0K at h
  simp only [Bool.and_eq_true] at h
  cases i with
  |zero=>
   have hx:x.2=1:=by simpa using hs
   have h2:=h.1.1.2
   rw [hx] at h2
   cases op with
   |true=> rfl
   |false=> simp at h2
  |succ i=> exact Q3B op l x.2 h.2 i (by simpa using hi) (by simpa using hs)
theorem Q82 {m:Am} {now a p f s:Int} {n:Nat} {gg:List (Int × Int)} {pl st:Int} (h:Q4F m now a p f s n gg pl st=false):Q5W m now a p f s n gg pl st=am0∧Q7Y m now a p f s n gg pl st= -1:=by
 constructor
 ·unfold Q5W;rw [if_neg (by rw [h];decide)]
 ·unfold Q7Y;rw [if_neg (by rw [h];decide)]
theorem Q7A {m:Am} {now a p f s:Int} {n:Nat} {gg:List (Int × Int)} {pl st:Int} (h0:Q4F m now a p f s n gg pl st=true) {M:Am} {v sb sf:Int} (hM:Q5W m now a p f s n gg pl st=M) (hv:Q7Y m now a p f s n gg pl st=v) (hs:gg.getD pl.toNat (0,0)=(sb,sf)):
  Q0o M=true∧(0≤pl∧pl < (gg.length:Int)∧gg.length≤24∧0≤st∧st≤now∧now≤100000)∧
  ((v=6∧sb≠m.id∧M=m)
  ∨(v=0∧sb=m.id∧Q14 m a p=true∧Q14 M a p=decide (bits .and .i64 f 12=0))
  ∨(v=1∧sb=m.id∧Q14 m a p=false∧sf=1∧Q12 a p f s n=true∧Q14 M a p=true∧m.dr=false)
  ∨(v=2∧sb=m.id∧Q14 m a p=false∧Q14 M a p=false∧pl < (gg.length:Int) - 1∧(sf=0∨(sf=1∧Q4n M a p=true)))
  ∨(v=3∧sb=m.id∧Q14 m a p=false∧pl=(gg.length:Int) - 1∧M=m)
  ∨(v=4∧sb=m.id∧Q12 a p f s n=true∧10 < now - st∧M=m)
  ∨(v=5∧sb=m.id∧M=m)):=by
 have h:=h0
 simp only [Q4F,Bool.and_eq_true,decide_eq_true_eq] at h
 obtain ⟨⟨⟨ha,hn0,hn1⟩,hc⟩,hst⟩:=h
 have hp:=Q0A.1 ha
 obtain ⟨hpk,hg24,hpl0,hpl1,hst0,hst1⟩:=Q2O hc
 have hf:=Q2F hpk
 have hpi:=Q0P.1 hpk
 have hsr:0≤s∧s≤100000:=⟨hpi.2.2.2.1,by have:=hpi.2.2.2.2.1;omega⟩
 have hk:pl.toNat < gg.length:=by omega
 have hkp:((pl.toNat:Nat):Int)=pl:=by omega
 have htc:=hp.2.2.2.2.1
 have htt:=hp.2.2.2.2.2.1
 have eM:M=Q7b m now a p f s gg pl st:=by rw [←hM];unfold Q5W;rw [if_pos h0]
 have ev:v=hdV m now a p f sb sf pl.toNat gg.length st:=by rw [←hv];unfold Q7Y;rw [if_pos h0,hs]
 have eMc:M.c=hdC m now a p f s sb sf pl.toNat gg.length st:=by rw [eM];unfold Q7b;rw [hs]
 have eMt:M.t=hdT m now a p f sb sf pl.toNat gg.length st:=by rw [eM];unfold Q7b;rw [hs]
 have hMok:Q0o M=true:=by
  rw [eM]
  exact Q0A.2 ⟨hp.1,hp.2.1,hp.2.2.1,hp.2.2.2.1,Q7T htc hf ⟨hn0,hn1⟩ hsr,Q7Q htt hf ⟨hn0,hn1⟩,trivial⟩
 have hsame:M.c=m.c→M.t=m.t→M=m:=by
  intro h1 h2
  rw [eM] at h1 h2 ⊢
  unfold Q7b at h1 h2 ⊢
  simp only at h1 h2
  rw [h1,h2]
 have hH:Q14 m a p=(Q0m m.c a p).2:=by simp [Q14,ha,hf]
 have hHM:Q14 M a p=(Q0m M.c a p).2:=by simp [Q14,hMok,hf]
 have hSM:Q4n M a p=(Q0m M.t a p).2:=by simp [Q4n,hMok,hf]
 have hseg:=Q33 hc pl.toNat hk
 rw [hs] at hseg
 have hop:sf=1→Q12 a p f s n=true:=by
  intro h1
  have hr:=(Bool.and_eq_true_iff.1 (show (Q4x a p f s n gg.length pl st && Q0K (Q1X f) 0 gg)=true from hc)).2
  have:=Q3B _ gg 0 hr pl.toNat hk (by rw [hs];exact h1)
  unfold Q1X at this
  unfold Q12
  rw [hpk,this];rfl
 refine ⟨hMok,⟨hpl0,hpl1,hg24,hst0,hst,hn1⟩, ?_⟩
 clear hM hv hs eM h0 hc
 unfold hdV at ev
 unfold hdC at eMc
 unfold hdT at eMt
 by_cases hb:sb=m.id
 ·rw [if_pos hb] at ev eMc eMt
  by_cases ho:(bits .and .i64 f 3==1)=true∧10 < now - st
  ·rw [if_pos ho] at ev eMc eMt
   exact .inr (.inr (.inr (.inr (.inr (.inl ⟨ev,hb,by unfold Q12;rw [hpk,ho.1];rfl,ho.2,hsame eMc eMt⟩)))))
  ·rw [if_neg ho] at ev eMc eMt
   by_cases he:(Q0m m.c a p).2=true
   ·rw [if_pos he] at ev eMc eMt
    refine .inr (.inl ⟨ev,hb,hH.trans he, ?_⟩)
    rw [hHM,eMc]
    unfold Q2T
    by_cases hx:bits .and .i64 f 12=0
    ·rw [if_pos hx,Q5r htc hf hsr ⟨by omega,by omega⟩ (Q8e htc he)]
     exact (decide_eq_true hx).symm
    ·rw [if_neg hx,Q7L htc he]
     exact (decide_eq_false hx).symm
   ·have he':(Q0m m.c a p).2=false:=by simpa using he
    rw [if_neg he] at ev eMc eMt
    by_cases h1:sf=1
    ·rw [if_pos h1] at ev eMc eMt
     unfold Q41 at ev
     unfold Q3V at eMc
     unfold Q3T at eMt
     by_cases hg:Q19 m a p (Q0M pl.toNat gg.length)=true
     ·rw [if_pos hg] at ev eMc
      have hg2:=hg
      unfold Q19 at hg2
      simp only [Bool.and_eq_true,decide_eq_true_eq] at hg2
      refine .inr (.inr (.inl ⟨ev,hb,hH.trans he',h1,hop h1, ?_, ?_⟩))
      ·rw [hHM,eMc]
       exact Q5r htc hf hsr ⟨by omega,by omega⟩ (Q7k hg2.1.2.1 a p)
      ·have:=hg2.1.2.2
       cases hd:m.dr with
       |false=> rfl
       |true=> rw [hd] at this;cases this
     ·rw [if_neg hg] at ev eMc
      by_cases hl:Q0M pl.toNat gg.length=true
      ·rw [if_pos hl] at ev
       rw [if_pos (.inr hl)] at eMt
       refine .inr (.inr (.inr (.inr (.inl ⟨ev,hb,hH.trans he', ?_,hsame eMc eMt⟩))))
       have:=of_decide_eq_true hl
       omega
      ·rw [if_neg hl] at ev
       rw [if_neg (fun q=> q.elim hg hl)] at eMt
       by_cases hx:0≤(Q0m m.t a p).1
       ·rw [if_pos hx] at ev
        refine .inr (.inr (.inr (.inl ⟨ev,hb,hH.trans he',by rw [hHM,eMc];exact he', ?_,.inr ⟨h1, ?_⟩⟩)))
        ·have:¬((pl.toNat:Nat):Int)=(gg.length:Int) - 1:=fun q=> hl (decide_eq_true q)
         omega
        ·rw [hSM,eMt]
         exact Q5r htt hf ⟨by decide,by decide⟩ ⟨by omega,by omega⟩ hx
       ·rw [if_neg hx] at ev
        rw [Q5t (by omega)] at eMt
        exact .inr (.inr (.inr (.inr (.inr (.inr ⟨ev,hb,hsame eMc eMt⟩)))))
    ·rw [if_neg h1] at ev eMc eMt
     have h2:sf=0:=hseg.resolve_right h1
     by_cases hl:Q0M pl.toNat gg.length=true
     ·rw [if_pos hl] at ev
      refine .inr (.inr (.inr (.inr (.inl ⟨ev,hb,hH.trans he', ?_,hsame eMc eMt⟩))))
      have:=of_decide_eq_true hl
      omega
     ·rw [if_neg hl] at ev
      refine .inr (.inr (.inr (.inl ⟨ev,hb,hH.trans he',by rw [hHM,eMc];exact he', ?_,.inl h2⟩)))
      have:¬((pl.toNat:Nat):Int)=(gg.length:Int) - 1:=fun q=> hl (decide_eq_true q)
      omega
 ·rw [if_neg hb] at ev eMc eMt
  exact .inl ⟨ev,hb,hsame eMc eMt⟩
end Go.Proofs.Ytljogkoaaidlcaa
