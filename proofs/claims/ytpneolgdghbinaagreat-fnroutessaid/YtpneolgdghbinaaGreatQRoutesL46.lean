/- What a route says and how it is gone through. -/
import Derived.Test.YtpneolgdghbinaaGreatQRoutesL41
import Derived.Test.YtpneolgdghbinaaGreatQRoutesL44
import Derived.Test.YtpneolgdghbinaaGreatQRoutesL45
namespace Go.Proofs.YtpneolgdghbinaaGreat
open Go.ChangeShapes Go.WideShapes Go.ChangeAt Go.RowKit Go.Joins
set_option linter.unusedVariables false
set_option linter.unusedSimpArgs false
set_option maxRecDepth 100000
set_option maxHeartbeats 40000000
theorem BalRd.key {w:World} {b:Int} {g:Value} {d a:Int} {f i j:Value} {m:Bm} (h:BalRd w (Q0Z b g d a f i j) m):a=m.p.key:=by
 obtain ⟨o,c,u,r,l,t,s,k,v,n,e,x,y,z,A,q⟩:=h;simp only [Value.agg.injEq,Array.mk.injEq,List.cons.injEq,and_true,true_and,Value.int.injEq] at e;exact e.2.2.2.1
theorem BalRd.fitP {w:World} {v:Value} {m:Bm} (h:BalRd w v m):Q2f m.p:=by
 obtain ⟨o,c,ob,np,cb,oR,nr,cR,ot,ct,e,r1,r2,r3,r4,hf⟩:=h;exact hf.2.1
theorem Q8m {v:Value} {m:Bm} {w:World} (a b f s:Int) (po:Option Addr) (d g:Nat) (u:d≤maxLen) (h:BalRd w v m):
  Calls Tryz.prog 8 #[v,pkt a b f s (.slice po d g)] w fun e i=> ∃v',e=.returned v'∧ownL Q5j 50 i w.heap.size v' (Q5N m a b f s d)∧Below w.heap.size w i:=by
 obtain ⟨o,c,A,x,n,z,y,k,B,q,rfl,C,D,E,F,r⟩:=h;exact Q7F m.j.key o m.j.l.length c m.j.safe m.p.key A x n z y k B m.t.length q m.j.l m.p.l m.p.ring m.t a b f s po d g w rfl rfl C D E F r u
theorem Qah {v:Value} {m:Bm} {w:World} (h:BalRd w v m):
  Calls Tryz.prog 9 #[v] w fun e y=> e=.returned (.bool (Q2g m))∧Below w.heap.size w y:=by
 obtain ⟨o,c,n,g,b,k,i,a,q,d,rfl,r,s,u,x,f⟩:=h;exact Q95 m.j.key o m.j.l.length c m.j.safe m.p.key n g b k i a q m.t.length d m.j.l m.p.l m.p.ring m.t w rfl rfl r s u x f
theorem RdV.rdl {α:Type} {L:Lay α} {C:Nat} {w:World} {o:Option Addr} {n c:Nat} {l:List α} (h:RdV L C w (.slice o n c) l) (a:C≤w.heap.size):RdL L w.heap.size w o l:=by
 obtain ⟨d,b,e,r⟩:=h;injection e with e1 _ _;subst e1;exact r.le a
theorem QaD {C:Nat} {w:World} {o:Option Addr} {l:List Int} (h:RdI C w o l) {i:Nat} (hi:i < l.length):∃b off,o=some ⟨b,off,none⟩∧b < C∧w.cell? ⟨b,off+i,none⟩=some (.int .i64 (l.getD i 0)):=by
 rcases h with h|⟨b,off,c,a,r⟩
 ·rw [h] at hi;exact absurd hi (Nat.not_lt_zero _)
 ·exact ⟨b,off,c,a,RdL.int r i hi⟩
theorem QcT {l:List Int} {j k:Nat} (h:j < k):(l.take k).getD j 0=l.getD j 0:=by
 rw [List.getD_eq_getElem?_getD,List.getD_eq_getElem?_getD,List.getElem?_take_of_lt h]
theorem Qes {l:List Int} {i:Nat} (h:i < l.length):l.getD i 0∈l:=by
 rw [List.getD_eq_getElem?_getD,List.getElem?_eq_getElem h];exact List.getElem_mem h
theorem Qgd {l:List Int} (c:l.Nodup) {k:Nat} (a:k < l.length):∀j,j < k→¬(l.getD j 0=l.getD k 0):=by
 intro j b;rw [List.getD_eq_getElem?_getD,List.getD_eq_getElem?_getD,List.getElem?_eq_getElem a,List.getElem?_eq_getElem (by omega)];exact List.pairwise_iff_getElem.1 c j k (by omega) a b
theorem Q86 (a:List Int) (x:Int) (j:Nat) (h:j < a.length):(a.take (j+1)).contains x=((a.take j).contains x||(a.getD j 0==x)):=by
 have e:a.getD j 0=a[j]:=by simp [h]
 rw [List.take_succ_eq_append_getElem h,e,Bool.eq_iff_iff];simp only [List.contains_iff_mem,List.mem_append,List.mem_singleton,Bool.or_eq_true,beq_iff_eq]
 constructor
 ·rintro (h1|h1)
  ·exact .inl h1
  ·exact .inr h1.symm
 ·rintro (h1|h1)
  ·exact .inl h1
  ·exact .inr h1.symm
theorem Qi2 {A B:List Int} {k:Nat} (h:k < A.length):(A.map (fun x=> (x,(0:Int)))++B.map (fun x=> (x,(1:Int)))).getD k (0,0)=(A.getD k 0,0):=by
 rw [List.getD_eq_getElem?_getD,List.getElem?_append_left (by simpa using h),List.getElem?_map,List.getElem?_eq_getElem h,List.getD_eq_getElem?_getD,List.getElem?_eq_getElem h]
 rfl
theorem QgM {A B:List Int} {k:Nat} (h:A.length≤k) (a:k - A.length < B.length):(A.map (fun x=> (x,(0:Int)))++B.map (fun x=> (x,(1:Int)))).getD k (0,0)=(B.getD (k - A.length) 0,1):=by
 rw [List.getD_eq_getElem?_getD,List.getElem?_append_right (by simpa using h),List.length_map,List.getElem?_map,List.getElem?_eq_getElem a,List.getD_eq_getElem?_getD,List.getElem?_eq_getElem a]
 rfl
theorem Q8Q {l:List Int} {k:Nat} (h:k < l.length):l.take k++[l.getD k 0]=l.take (k+1):=by
 rw [List.take_succ_eq_append_getElem h,List.getD_eq_getElem?_getD,List.getElem?_eq_getElem h]
 rfl
theorem Qgh {C:Nat} {w:World} {j:Int} {k:Value} {o:Option Addr} {n c:Nat} {m:Pm} (h:Q60 C w (plv j k (.slice o n c)) m) (i:Nat) (hi:i < m.ring.length) (g:C≤w.heap.size:=by omega):n=m.ring.length∧∃b off u,o=some ⟨b,off,none⟩∧b < C∧w.cell? ⟨b,off+i,none⟩=some u∧RiT 0 C w u (m.ring.getD i []):=by
 obtain ⟨l,p,e,_,h2⟩:=h;simp only [Value.agg.injEq,Array.mk.injEq,List.cons.injEq,and_true,true_and,Value.int.injEq] at e;obtain ⟨_,_,a⟩:=e;subst a;refine ⟨?_,RiRows.atS h2 g i hi⟩;obtain ⟨hs,f,⟨r,q,d,_⟩,_⟩:=h2;injection d with _ e4 _;rw [e4,f]
theorem RiT.lenR {lo hi:Nat} {w:World} {v:Value} {ll:List (List Int)} (h:RiT lo hi w v ll):∃o c,v=.slice o ll.length c:=by
 obtain ⟨hs,h0,⟨o,c,e,_⟩,_⟩:=h;exact ⟨o,c,by rw [e,h0]⟩
theorem RiI.lenR {lo hi:Nat} {w:World} {v:Value} {l:List Int} (h:RiI lo hi w v l):∃o c,v=.slice o l.length c:=by
 obtain ⟨o,c,e,_⟩:=RiV.open h;exact ⟨o,c,e⟩
theorem RiI.rdR {lo hi:Nat} {w:World} {o:Option Addr} {n c:Nat} {l:List Int} (h:RiI lo hi w (.slice o n c) l) (a:hi≤w.heap.size):RdI w.heap.size w o l:=by
 obtain ⟨d,b,e,r⟩:=RiV.open h;injection e with e1 _ _;subst e1;exact r.le a
theorem InRow.keptR {a b:Nat} {w d:World} {e:TypeId} {size:Nat} {v:Value} {n:Nat} {f:List Value} (h:InRow a b w e size v n f) (c:Below b w d):InRow a b d e size v n f:=
 h.steps (lo:=b) (hi:=d.heap.size) ⟨c.os,c.tape,c.output,c.size,fun k i j=> c.block k (by have:=c.size;omega)⟩ (fun g e=> .inl (h.2 g e))
structure RtInv (A B:List Int) (wS wr:World) (ov hv:Value) (k C:Nat):Prop where
 lo:wS.heap.size≤C
 hi:C≤wr.heap.size
 own:InL Q1P 3 wS.heap.size C wr ov (A.take k)
 hunt:ownL Q1P 3 wr C hv (B.take (k - A.length))
 nil:k≤A.length→hv=.slice none 0 0
 bel:Below wS.heap.size wS wr
theorem RtInv.start (A B:List Int) (a:World):RtInv A B a a (.slice none 0 0) (.slice none 0 0) 0 a.heap.size:=
 ⟨Kaq _,Kaq _,InRow.of (by rw [List.take_zero];exact World.ownsRow_nil _ _ _ _),by rw [Nat.zero_sub,List.take_zero];exact World.ownsRow_nil _ _ _ _,fun _=> rfl,Below.refl _ _⟩
theorem RtInv.own_rd {A B:List Int} {wS wr:World} {ov hv:Value} {k C:Nat} (h:RtInv A B wS wr ov hv k C):∃o c,ov=.slice o (A.take k).length c∧RdI C wr o (A.take k):=InL.rd (L:=Q1P) h.own
theorem RtInv.hunt_rd {A B:List Int} {b wr:World} {a hv:Value} {k C:Nat} (h:RtInv A B b wr a hv k C):∃o c,hv=.slice o (B.take (k - A.length)).length c∧RdI wr.heap.size wr o (B.take (k - A.length)):=ownL.open h.hunt
theorem RtInv.asked {A B:List Int} {a wr c b:World} {d g:Value} {k C:Nat} {x:Int} {O:Obj} (h:RtInv A B a wr d (.slice none 0 0) k C) (l:k < A.length) (m:A.getD k 0=x) (i:Below wr.heap.size wr c) (F:ownL Q1P 3 (c.alloc O) a.heap.size d (A.take k)) (hv:ownL Q1P 3 b a.heap.size g (A.take k++[x])) (j:(c.alloc O).grownBy b d.ownBlock):RtInv A B a b g (.slice none 0 0) (k+1) b.heap.size:=by
 have h2:Below a.heap.size a c:=h.bel.trans (i.mono h.bel.size);have f:Below a.heap.size a b:=(h2.alloc h2.size O).grown j (Kdq h2.size (by simp)) (fun q e=> (F.lt q e).1);rw [←m,Q8Q l] at hv;exact ⟨f.size,Kaq _,InRow.of hv,by rw [show k+1 - A.length=0 by omega,List.take_zero];exact World.ownsRow_nil _ _ _ _,fun _=> rfl,f⟩
theorem RtInv.hunted {A B:List Int} {c wr b:World} {g hv i:Value} {k C:Nat} {y:Int} {O:Obj} (h:RtInv A B c wr g hv k C) (p:A.length≤k) (f:k - A.length < B.length) (r:B.getD (k - A.length) 0=y) (F:ownL Q1P 3 (wr.alloc O) C hv (B.take (k - A.length))) (a:ownL Q1P 3 b C i (B.take (k - A.length)++[y])) (n:(wr.alloc O).grownBy b hv.ownBlock):RtInv A B c b g i (k+1) C:=by
 have hs:C≤(wr.alloc O).heap.size:=Kdq h.hi (by simp);have d:Below C wr b:=((Below.refl C wr).alloc h.hi O).grown n hs (fun q e=> (F.lt q e).1);have m:Below c.heap.size c b:=h.bel.trans (d.mono h.lo);rw [←r,Q8Q f] at a
 have j:A.take (k+1)=A.take k:=by rw [List.take_of_length_le p,List.take_of_length_le (by omega)]
 have l:k+1 - A.length=k - A.length+1:=by omega
 refine ⟨h.lo,Kdq h.hi d.size, ?_,by rw [l];exact a,fun q=> by omega,m⟩;rw [j];exact InRow.keptR h.own d
end Go.Proofs.YtpneolgdghbinaaGreat
