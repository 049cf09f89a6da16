/- What is sent may be: its way is short, own ahead of hunts. -/
import Derived.Test.YtpneolgdghbinaaGreatQSends49
import Derived.Test.YtpneolgdghbinaaGreatQSends39
import Derived.Test.YtpneolgdghbinaaGreatQSends50
namespace Go.Proofs.YtpneolgdghbinaaGreat
open Go.ChangeShapes Go.WideShapes Go.ChangeAt Go.RowKit Go.Joins
set_option linter.unusedVariables false
set_option linter.unusedSimpArgs false
set_option maxRecDepth 100000
set_option maxHeartbeats 40000000
theorem Qg1 {l:List Sl} (h:l.all isV=true) (a p:Int):isV (Q8m l a p)=true:=by
 unfold Q8m
 split
 ·exact QbB h _
 ·decide
theorem Q5F (op:Bool) (tl:List (Int × Int)):∀(g:List (Int × Int)),(∀p∈g,(0≤p.1∧p.1 < 6)∧p.2=0)→Q2b op 0 (g++tl)=Q2b op 0 tl
 |[],_=> rfl
 |p::g,h=> by
  have hp:=h p (List.mem_cons_self ..)
  have ih:=Q5F op tl g (fun q hq=> h q (List.mem_cons_of_mem _ hq))
  show (Q1K p.1 p.2 && !(p.2==1 && !op) && !(decide (p.2 < 0)) && Q2b op p.2 (g++tl))=_
  rw [hp.2,ih]
  have:Q1K p.1 0=true:=by unfold Q1K;simp;omega
  rw [this]
  simp
theorem Q5U {op:Bool} (hop:op=true):∀(l:List Int) (h:Int),h≤1→(∀x∈l,0≤x∧x < 6)→Q2b op h (l.map (fun x=> (x,1)))=true
 |[],_,_,_=> rfl
 |x::l,h,hh,hx=> by
  have hp:=hx x (List.mem_cons_self ..)
  have ih:=Q5U hop l 1 (Int.le_refl _) (fun q hq=> hx q (List.mem_cons_of_mem _ hq))
  show (Q1K x 1 && !((1:Int)==1 && !op) && !(decide ((1:Int) < h)) && Q2b op 1 (l.map (fun x=> (x,1))))=true
  rw [ih,hop]
  have:Q1K x 1=true:=by unfold Q1K;simp;omega
  rw [this,decide_eq_false (show ¬((1:Int) < h) by omega)]
  simp
theorem QfJ {m:Bm} (h:Q2i m=true) {a b:Int} {qn:Nat} (hq8:qn < 8):∀p∈Q1n (Q1o m.t a b).2 (Q8m m.t a b).v (Q2h m.p.ring qn) (Q2h m.p.ring qn).length,(0≤p.1∧p.1 < 6)∧p.2=0:=by
 intro p hp
 have hr:=Ring.of (Q2O h);have hv:=Qg1 (Q6p h) a b
 unfold isV at hv
 simp only [Bool.and_eq_true,decide_eq_true_eq] at hv
 unfold Q1n at hp
 rcases List.mem_append.1 hp with hp|hp
 ·split at hp
  ·rw [List.mem_singleton.1 hp];exact ⟨hv,rfl⟩
  ·cases hp
 ·obtain ⟨x,hx,rfl⟩:=List.mem_map.1 hp
  rw [List.take_length] at hx
  exact ⟨hr.ids hq8 x (List.mem_filter.1 hx).1,rfl⟩
theorem QeR {m:Bm} (h:Q2i m=true) {qn:Nat} (hq8:qn < 8):∀x∈(m.p.ring.getD 0 []).getD qn [],0≤x∧x < 6:=by
 have hr:=Ring.of (Q2O h)
 exact Qb7 ((Q47 (hr.ok 0 hr.pos)).2 qn hq8)
theorem Qbl {m:Bm} {a b f s:Int} {n:Nat} (h:Q2i m=true) (hp:Q0q a b f s n=true):Q2b (Q59 f) 0 (Q1S m.p.key m.p.ring m.t a b f)=true∧(Q1S m.p.key m.p.ring m.t a b f).length≤9:=by
 have hp':=Q2O h;have hr:=Ring.of hp';obtain ⟨qn,hq,hq8⟩:=Q4D (Q1q hp').1 (Q2D hp)
 unfold Q1S
 rw [hq,show ((qn:Int)).toNat=qn from rfl]
 have h6:=hr.six hq8;have h2:=hr.two 0 hr.pos qn hq8;have h7:=Q2u (Q1o m.t a b).2 (Q8m m.t a b).v (Q2h m.p.ring qn) (Q2h m.p.ring qn).length;have hi:=QfJ h (a:=a) (b:=b) hq8
 unfold Q65
 split
 ·next ho=>
  unfold Q3f
  rw [List.take_length]
  refine ⟨?_,by rw [List.length_append,List.length_map];omega⟩
  rw [Q5F _ _ _ hi]
  exact Q5U ho _ 0 (by decide) (QeR h hq8)
 ·refine ⟨?_,by omega⟩
  have e:=Q5F (Q59 f) [] _ hi
  rw [List.append_nil] at e
  rw [e]
  rfl
theorem Qgs {m:Bm} {now a b f s:Int} {n:Nat} (h:Q5t m now a b f s n=true):Q1F a b f s n (Q1S m.p.key m.p.ring m.t a b f) 0 now=true∧(Q3m m a b f s n)=Q1S m.p.key m.p.ring m.t a b f∧Q28 a b a b=0:=by
 unfold Q5t at h
 simp only [Bool.and_eq_true,decide_eq_true_eq] at h
 obtain ⟨⟨h1,h2,h3⟩,h4⟩:=h;have hr:=Qbl h1 h3
 unfold QgG at h2
 simp only [Bool.and_eq_true,decide_eq_true_eq] at h2
 refine ⟨?_, ?_, ?_⟩
 ·rw [←Q4o (Q74.2 ⟨h3,by omega,by omega,Int.le_refl _,by omega,h2.1,h2.2,trivial⟩)]
  exact hr.1
 ·unfold Q3m;rw [if_pos (by rw [h1,h3];rfl)]
 ·have:=Q2D h3
  unfold Q28
  rw [if_pos (by rw [this];rfl),if_pos rfl]
  exact Qd2
theorem Qgp {m:Bm} {now a b f s:Int} {n:Nat} (h:Q5t m now a b f s n=false):(Q3m m a b f s n).length=0∨now < 0∨100000 < now:=by
 unfold Q3m
 by_cases hb:(Q2i m && Q0q a b f s n)=true
 ·rw [if_pos hb]
  simp only [Bool.and_eq_true] at hb
  unfold Q5t QgG at h
  rw [hb.1,hb.2] at h
  simp at h
  by_cases h0:now < 0
  ·exact .inr (.inl h0)
  ·by_cases h1:100000 < now
   ·exact .inr (.inr h1)
   ·left
    have:=h (by omega) (by omega)
    rw [this];rfl
 ·rw [if_neg hb];exact .inl rfl
theorem QaM (m:Bm) (a b f s:Int) (n:Nat):(Q3m m a b f s n).length≤9:=by
 unfold Q3m
 split
 ·next h=> rw [Bool.and_eq_true] at h;exact (Qbl h.1 h.2).2
 ·simp
end Go.Proofs.YtpneolgdghbinaaGreat
