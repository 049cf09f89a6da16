/- A balancer that may be is one behind a command, and behind a hint that is learnt. -/
import Derived.Test.YtpneolgdghbinaaGreatQSends37
import Derived.Test.YtpneolgdghbinaaGreatQSends38
namespace Go.Proofs.YtpneolgdghbinaaGreat
open Go.ChangeShapes Go.WideShapes Go.ChangeAt Go.RowKit Go.Joins
set_option linter.unusedVariables false
set_option linter.unusedSimpArgs false
set_option maxRecDepth 100000
set_option maxHeartbeats 40000000
theorem Qab {m:Pm} (h:Q21 m=true):Q3i m m=true:=by
 unfold Q3i
 rw [decide_eq_true rfl,decide_eq_true rfl,Bool.true_and,Bool.true_and]
 refine Q5o rfl (fun i hi=> ?_)
 have h8:=(Q47 ((Q1q h).2.2.2.2 i hi)).1
 unfold Q1s
 rw [if_pos ⟨h8,h8⟩]
 exact Q4f 8 (fun _ _=> rfl)
theorem Qa6 {m:Bm} (h1:Q0p m.j.key m.j.l m.j.safe=true) (h2:Q0l m.t=true) (h3:m.t.all isV=true) (h4:m.p=Q0I m.j):Q2i m=true:=by
 unfold Q2i Q6d
 rw [h1,h2,h3,h4,Qab (Q3F h1)]
 rfl
theorem Q6p {m:Bm} (h:Q2i m=true):m.t.all isV=true:=by
 unfold Q2i Q6d at h
 simp only [Bool.and_eq_true] at h
 exact h.2.1.2
theorem QfH {m:Bm} {k i gg:Int} (hb:Q2i m=true):Q2i (Q8O m k i gg)=true:=by
 unfold Q8O
 split
 ·next h=>
  have hn:=Qbo h;have h5:=Q29 hb;have h6:=Q6p hb
  refine Qa6 hn.2.1 h5 h6 ?_
  show Q9k m.p k i gg=_
  rw [Q2g hb]
  exact hn.2.2.2.1
 ·exact hb
theorem QbB {l:List Sl} (h:l.all isV=true) (k:Nat):isV (l.getD k sl0)=true:=by
 by_cases hk:k < l.length
 ·rw [List.getD_eq_getElem?_getD,List.getElem?_eq_getElem hk]
  exact List.all_eq_true.1 h _ (List.getElem_mem hk)
 ·rw [List.getD_eq_getElem?_getD,List.getElem?_eq_none (by omega)]
  decide
theorem Q8A {l:List Sl} (h:l.all isV=true) (k:Nat) {s:Sl} (hs:isV s=true):(l.set k s).all isV=true:=by
 rw [List.all_eq_true] at h ⊢
 intro x hx
 rcases List.mem_or_eq_of_mem_set hx with hx|rfl
 ·exact h x hx
 ·exact hs
theorem Q5G (n:Nat):∀(g:Nat) (l:List Sl) (i k:Nat),l.all isV=true→(Q2j n g l i k).all isV=true
 |0,l,_,_,h=> h
 |g+1,l,i,k,h=> by
  unfold Q2j
  split
  ·split
   ·exact Q5G n g _ _ _ (Q8A (Q8A h _ (QbB h k)) _ (by decide))
   ·exact Q5G n g _ _ _ h
  ·exact h
theorem Qdm {l:List Sl} (h:l.all isV=true) (a p:Int):(Q3D l a p).all isV=true:=by
 unfold Q3D
 split
 ·exact Q5G _ _ _ _ _ (Q8A h _ (by decide))
 ·exact h
theorem QaZ {l:List Sl} (h:l.all isV=true) (a p:Int) {v t:Int} (hv:0≤v∧v < 6):(Q6j l a p v t).all isV=true:=by
 unfold Q6j
 split
 ·exact Q8A h _ (by unfold isV;simp;omega)
 ·exact h
theorem Qci {m:Bm} {now a p v:Int} (hb:Q2i m=true) (hn0:0≤now) (hn1:now≤100000) (hfl:Q0f a p=true) (hv:0≤v∧v < 6):Q2i (Q6P m now a p v)=true:=by
 have h5:=Q4a hb;have h6:=Q2g hb
 refine Qa6 h5 ?_ ?_ h6
 ·show Q0l (Q4q m.t now a p v)=true
  unfold Q4q
  split
  ·exact Qaj (Q29 hb) hfl (by omega) (by omega)
  ·exact Qaj (QaR (Q29 hb)) hfl (by omega) (by omega)
 ·show (Q4q m.t now a p v).all isV=true
  unfold Q4q
  split
  ·exact QaZ (Q6p hb) a p hv
  ·exact QaZ (Qdm (Q6p hb) _ _) a p hv
theorem Q89 {m:Bm} (h:Q2i m=true):fitBm m:=⟨by have:=(Q0Q (Q4a h)).2.1;omega,Q4Z h,by have:=(Q0i.1 (Q29 h)).2.1;omega⟩
theorem Qfb (key:Int) (n:Nat) (hk:Q1C key=true) (h1:1≤n) (h2:n≤16):Q2i ⟨⟨key,[],0⟩,⟨key,[],Q13 key [[]]⟩,List.replicate n sl0⟩=true:=by
 have hj:Q0p key [] 0=true:=by unfold Q0p;rw [hk];rfl
 refine Qa6 hj ?_ ?_ ?_
 ·show Q0l (List.replicate n sl0)=true
  have e:Q7z (n:Int)=List.replicate n sl0:=by unfold Q7z;rw [if_pos ⟨by omega,by omega⟩];simp
  rw [←e]
  exact Qg6 (by omega) (by omega)
 ·show (List.replicate n sl0).all isV=true
  rw [List.all_eq_true]
  intro x hx
  rw [List.eq_of_mem_replicate hx]
  decide
 ·show (⟨key,[],Q13 key [[]]⟩:Pm)=Q0I ⟨key,[],0⟩
  unfold Q0I
  rw [if_pos hj]
  rfl
end Go.Proofs.YtpneolgdghbinaaGreat
