/- Several texts in one: SFlows, SortMath. -/
import Derived.Test.YtpneolgdghbinaaGreatQLearnsL29
import Derived.Test.YtpneolgdghbinaaGreatQLearnsL50
namespace Go.Proofs.YtpneolgdghbinaaGreat
open Go.ChangeShapes Go.WideShapes Go.ChangeAt Go.RowKit Go.Joins
set_option linter.unusedVariables false
set_option linter.unusedSimpArgs false
set_option maxRecDepth 100000
set_option maxHeartbeats 40000000
def ltF (x y:Int × Int):Bool:=decide ((if x.1=y.1 then QaR x.2 y.2 else QaR x.1 y.1) < 0)
def plF (f:Int × Int) (L:List (Int × Int)):Nat:=(L.takeWhile (fun x=> ltF x f)).length
def Q8e (f:Int × Int) (L:List (Int × Int)):List (Int × Int):=L.take (plF f L)++([f]++L.drop (plF f L))
def Q66 (fs:List (Int × Int)):List (Int × Int):=fs.foldl (fun L f=> Q8e f L) []
theorem QdM (fs:List (Int × Int)) (f:Int × Int):Q66 (fs++[f])=Q8e f (Q66 fs):=by unfold Q66;rw [List.foldl_append];rfl
theorem Qei (f:Int × Int):∀L:List (Int × Int),plF f L≤L.length
 |[]=> Kaq _
 |x::L=> by
  unfold plF;rw [List.takeWhile_cons]
  split
  ·have:=Qei f L;unfold plF at this;simp;omega
  ·simp
theorem Qhu (f:Int × Int):∀(L:List (Int × Int)) (j:Nat),j < plF f L→ltF (L.getD j (0,0)) f=true
 |[],j,h=> absurd h (Nat.not_lt_zero _)
 |x::L,j,h=> by
  unfold plF at h;rw [List.takeWhile_cons] at h
  split at h
  ·next a=>
   cases j with
   |zero=> exact a
   |succ j=> exact Qhu f L j (by unfold plF;simpa using h)
  ·simp at h
theorem Qhq (f:Int × Int):∀(L:List (Int × Int)),plF f L < L.length→ltF (L.getD (plF f L) (0,0)) f=false
 |[],h=> absurd h (Nat.not_lt_zero _)
 |x::L,h=> by
  cases hx:ltF x f with
  |true=>
   have e:plF f (x::L)=plF f L+1:=by unfold plF;rw [List.takeWhile_cons,if_pos hx];rfl
   rw [e] at h ⊢;exact Qhq f L (by simpa using h)
  |false=>
   have e:plF f (x::L)=0:=by unfold plF;rw [List.takeWhile_cons,if_neg (by rw [hx];decide)];rfl
   rw [e];exact hx
theorem Qgu {f:Int × Int} {L:List (Int × Int)} {j:Nat} (b:j≤plF f L) (c:j < L.length) (h:ltF (L.getD j (0,0)) f=true):j+1≤plF f L:=by
 rcases Nat.lt_or_eq_of_le b with a|a
 ·exact a
 ·subst a;rw [Qhq f L c] at h;cases h
theorem QgU {f:Int × Int} {L:List (Int × Int)} {j:Nat} (b:j≤plF f L) (h:ltF (L.getD j (0,0)) f=false):j=plF f L:=by
 rcases Nat.lt_or_eq_of_le b with a|a
 ·rw [Qhu f L j a] at h;cases h
 ·exact a
theorem Qba (f:Int × Int) (L:List (Int × Int)):(Q8e f L).length=L.length+1:=by
 have:=Qei f L;unfold Q8e;simp only [List.length_append,List.length_take,List.length_drop,List.length_cons,List.length_nil];omega
theorem Q6A:∀(a L:List (Int × Int)),(a.foldl (fun L f=> Q8e f L) L).length=L.length+a.length
 |[],L=> rfl
 |f::a,L=> by
  have h:=Q6A a (Q8e f L);rw [Qba] at h;simp only [List.foldl_cons,List.length_cons];omega
theorem Q6r (fs:List (Int × Int)):(Q66 fs).length=fs.length:=by unfold Q66;rw [Q6A];simp
theorem Qai {α:Type} (L:Lay α):∀(l:List α) (j:Nat),(l.take j).flatMap L.cs=(l.flatMap L.cs).take (j * L.k)
 |[],j=> by simp
 |x::l,0=> by simp
 |x::l,j+1=> by
  have a:(L.cs x).length=L.k:=L.len x;have b:(L.cs x).take ((j+1) * L.k)=L.cs x:=List.take_of_length_le (by rw [a,Nat.succ_mul];omega);rw [List.take_succ_cons,List.flatMap_cons,List.flatMap_cons,Qai L l j,List.take_append,b,a,show (j+1) * L.k - L.k=j * L.k by rw [Nat.succ_mul];omega]
theorem QhL {α:Type} {L:Lay α} {C:Nat} {w:World} {o:Option Addr} {l:List α} {P:Prop} (h:RdL L C w o l) (a:l≠[]):o=none→P:=fun e=> by
 rcases h with h|⟨b,off,h,_⟩
 ·exact absurd h a
 ·rw [h] at e;cases e
theorem Qcj {α:Type} {L:Lay α} {e:TypeId} {w:World} {base n c j:Nat} {o:Option Addr} {l:List α} (h:ownL L e w base (.slice o n c) l) (p:j≤l.length):ownL L e w base (.slice o j c) (l.take j):=by
 obtain ⟨_,h2⟩:=h
 have a:(l.take j).length=j:=by rw [List.length_take];omega
 refine ⟨Q0o L _, ?_⟩
 rcases h2 with ⟨hv,r⟩|⟨g,cap,b,hv,k,m,q,d,f,i⟩
 ·left
  injection hv with e1 e2 e3;subst e1 e3
  have:j=0:=by omega
  subst this;exact ⟨rfl,a⟩
 ·right
  injection hv with e1 e2 e3;subst e1 e3;refine ⟨g,c,b,by rw [a],k,m,by omega,d,f, ?_⟩;rw [a,Qai,←i,List.take_take,Nat.min_eq_left (Nat.mul_le_mul_right _ p)]
theorem Qck {α:Type} {L:Lay α} {C:Nat} {w:World} {b off:Nat} {l:List α} (k q:Nat) (n:q=off+k * L.k) (h:RdL L C w (some ⟨b,off,none⟩) l):RdL L C w (some ⟨b,q,none⟩) (l.drop k):=by
 subst n
 rcases h with h|⟨f,a,m,d,r⟩
 ·left;rw [h];simp
 ·obtain ⟨rfl,rfl⟩:b=f∧off=a:=by simpa using m
  refine .inr ⟨b,off+k * L.k,rfl,d,fun i hi j g=> ?_⟩
  have c:k+i < l.length:=by simp at hi;omega
  have:=r (k+i) c j g;rw [Nat.add_mul,←Nat.add_assoc] at this;rw [this]
  congr 2
  simp [List.getD_eq_getElem?_getD,List.getElem?_drop]
theorem Qcw {α:Type} {L:Lay α} {e:TypeId} {w:World} {base n c:Nat} {o:Option Addr} {l:List α} (h:ownL L e w base (.slice o n c) l):(o=none∧l=[]∧c=0)∨∃g,o=some ⟨g,0,none⟩∧l.length≤c∧g < w.heap.size:=by
 have a:=fun g a=> h.lt g a
 rcases h.2 with ⟨hv,f⟩|⟨g,cap,b,hv,i,j,d,_⟩
 ·injection hv with e1 e2 e3
  exact .inl ⟨e1,List.eq_nil_of_length_eq_zero f,e3⟩
 ·injection hv with e1 e2 e3
  subst e1 e3;exact .inr ⟨g,rfl,d,(a g rfl).2⟩
theorem Qem {e:TypeId} {w:World} {base g n c:Nat} {L:List (Int × Int)} (h:ownL Q8m e w base (.slice (some ⟨g,0,none⟩) n c) L) (i:Nat) (hi:i < L.length):
  w.cell? ⟨g,i * 2,none⟩=some (.int .i64 (L.getD i (0,0)).1)∧w.cell? ⟨g,i * 2+1,none⟩=some (.int .i64 (L.getD i (0,0)).2):=by
 rcases h.rd with h|⟨f,a,k,j,r⟩
 ·rw [h] at hi;exact absurd hi (Nat.not_lt_zero _)
 ·obtain ⟨rfl,rfl⟩:g=f∧0=a:=by simpa using k
  have b:=r i hi 0 (by decide);have d:=r i hi 1 (by decide);simp only [Nat.zero_add,Nat.add_zero] at b d;exact ⟨b,d⟩
theorem Qc3 (w:World) (x y:Int):ownL Q8m 36 (w.alloc (.cells #[.int .i64 x,.int .i64 y] 36)).drew w.heap.size (.slice (some ⟨w.heap.size,0,none⟩) 1 1) [(x,y)]:=
 ⟨rfl,.inr ⟨w.heap.size,1,_,rfl,Kaq _,heap_alloc_new w _,Kaq _,by unfold maxLen;omega,rfl,rfl⟩⟩
def Q1j (l:List Sl):List (Int × Int):=if Q0c l=true then Q66 (Q1G l l.length) else []
theorem Q7F (o:Option Addr) (c:Nat) (l:List Sl) (w:World) (hR:RdS w.heap.size w o l) (hl:l.length≤1048576):
  Calls Tryz.prog 23 #[tab (.slice o l.length c)] w fun e w'=> ∃v,e=.returned v∧ownL Q8m 36 w' w.heap.size v (Q1j l)∧Below w.heap.size w w':=by
 obtain ⟨W0,aj⟩:∃W,(w.alloc (.cells #[.slice o l.length c] 32))=W:=⟨_,rfl⟩;have Z:=alb0v0v1 aj;have T:=Q01 Z;clear Z;have y:=alz0v0v1 aj
 have F:W0.cell? ⟨w.heap.size,0,none⟩=some (.slice o l.length c):=by rw [←aj];simp [go_sem]
 have Y:=Q7a o c l W0 ((hR.kept T.out (Kaq _)).le T.out.size) hl
 cases hT:Q0c l with
 |false=>
  have HM:=Q01 (show Q1j l=[] by unfold Q1j;rw [hT];rfl);rw [hT] at Y;go_enter Tryz.func23,Tryz.ntmps23;go_wp2_with fail;refine (Y).mono ?_;rintro e E ⟨rfl,hb⟩;replace F:=bKq0v0v0 hb F y;replace y:w.heap.size < E.heap.size:=Kbq y hb.size;replace T:=Q01 (T.out.trans (hb.mono T.out.size));clear hb;clear Y hT;go_wp2;go_ret;exact ⟨_,rfl,by rw [HM.out];exact World.ownsRow_nil _ _ _ _,T.out⟩
 |true=>
  have HM:=Q01 (show Q1j l=Q66 (Q1G l l.length) by unfold Q1j;rw [hT];rfl);rw [hT] at Y;have hn:=(Q07.1 hT).1;have aC:=(Q07.1 hT).2.1
  rcases hR with hR|⟨b,off,rfl,af,aa⟩
  ·subst hR;simp at hn
  have HC:=Q01 aa;clear aa;go_enter Tryz.func23,Tryz.ntmps23;go_wp2_with fail;refine (Y).mono ?_;rintro e E ⟨rfl,hb⟩;replace F:=bKq0v0v0 hb F y;replace y:w.heap.size < E.heap.size:=Kbq y hb.size;replace T:=Q01 (T.out.trans (hb.mono T.out.size));clear hb;clear Y hT;have av:=T.out.size;have m:b < E.heap.size:=Kbq af T.out.size;go_wp2
  go_loopw [3,4] (fun ov iv wr=> ∃k:Nat,k≤l.length∧iv=.int .i64 k∧Hid (ownL Q8m 36 wr E.heap.size ov (Q66 (Q1G l k)))∧Hid (Below E.heap.size E wr))
   (fun _ iv _=> l.length - (intOf iv).toNat)
  case atStart=> exact ⟨0,Kcq _,rfl,World.ownsRow_nil _ _ _ _,Below.refl _ _⟩
  case round=>
   obtain ⟨k,hk,rfl,HO,z⟩:=hrel
   by_cases hlt:k < l.length
   ·skip
    have ab:=RdL.slot (C:=w.heap.size) HC.out k hlt;obtain ⟨s,am⟩:∃s,l.getD k sl0=s:=⟨_,rfl⟩;rw [am] at ab;have E0:=Q01 ((T.out.cell (p:=⟨b,off+k * 5,none⟩) af).trans ab.1);have e0:=(z.out.cell (p:=⟨b,off+k * 5,none⟩) m).trans E0.out;have E1:=Q01 ((T.out.cell (p:=⟨b,off+k * 5+1,none⟩) af).trans ab.2.1);have e1:=(z.out.cell (p:=⟨b,off+k * 5+1,none⟩) m).trans E1.out;have E2:=Q01 ((T.out.cell (p:=⟨b,off+k * 5+2,none⟩) af).trans ab.2.2.1);have e2:=(z.out.cell (p:=⟨b,off+k * 5+2,none⟩) m).trans E2.out;have CT:=Q01 F
    have ai:=(z.out.cell (p:=⟨w.heap.size,0,none⟩) y).trans F;clear F
    have aF:(k:Int) < (l.length:Int):=by omega
    have HX:=Q01 am;clear ab am;obtain ⟨su,u,x,sv,st⟩:=s;simp only at e0 e1 e2 E0 E1 E2
    cases su with
    |false=>
     have HN:=Q01 (Qa9 hlt (by rw [HX.out]));go_wp2;go_roundw
     case rel=> exact ⟨k+1,hlt,by go_num,(by unfold Hid;rw [HN.out];exact HO.out),z⟩
     case measure=> simp [intOf];omega
    |true=>
     have hN:=Qaa hlt (by rw [HX.out]);rw [HX.out] at hN
     have ao:(Q66 (Q1G l k)).length≤k:=by rw [Q6r,Q7G];exact Q8w l k
     have HN:=Q01 (show Q66 (Q1G l (k+1))=Q8e (u,x) (Q66 (Q1G l k)) by rw [hN,QdM]);clear hN;obtain ⟨L,hL⟩:∃L,Q66 (Q1G l k)=L:=⟨_,rfl⟩;rw [hL] at HN HO ao;clear hL;obtain ⟨oo,cc,aA,_⟩:=ownL.open (L:=Q8m) HO.out;subst aA;obtain ⟨n,ae⟩:∃n,L.length=n:=⟨_,rfl⟩;rw [ae] at HO ao ⊢;have i:=Q01 ae;have aB:=Qei (u,x) L;rw [ae] at aB;clear ae
     rcases Qcw HO.out with ⟨rfl,rfl,rfl⟩|⟨g,rfl,aD,aE⟩
     ·skip
      have az:n=0:=by have:=i.out;simpa using this.symm
      subst az;go_wp2
      go_loopw [5] (fun jv wi=> ∃j:Nat,j≤plF (u,x) []∧jv=.int .i64 j∧Hid (ownL Q8m 36 wi E.heap.size (.slice none 0 0) [])∧Hid (Below E.heap.size E wi))
       (fun jv _=> 0 - (intOf jv).toNat)
      case atStart=> exact ⟨0,Kcq _,rfl,HO,z⟩
      case round=>
       clear HO z e0 e1 e2 ai;obtain ⟨j,hj,rfl,D,d⟩:=hrel
       have ax:j=0:=by simpa [plF] using hj
       subst ax;have HJ:=Q01 (show 0=plF (u,x) [] from rfl);go_wp2
       (refine Q0b (by kernel_rfl) (by kernel_rfl) ?_;intro ac;(repeat (go_big_quiet_step ((fail))));(with_reducible refine wpQuiet_nil ?_);intro _ V;obtain ⟨a,U⟩:=V;subst U)
       have X:Hid (ownL Q8m 36 a.v E.heap.size (.slice none 0 0) []):=Q03 D.out a.b;have f:=Q01 (d.out.trans (a.b.mono d.out.size));have t:=f.out.size;have e0:=(f.out.cell (p:=⟨b,off+k * 5,none⟩) m).trans E0.out;have e1:=(f.out.cell (p:=⟨b,off+k * 5+1,none⟩) m).trans E1.out;have e2:=(f.out.cell (p:=⟨b,off+k * 5+2,none⟩) m).trans E2.out;have an:=(f.out.cell (p:=⟨w.heap.size,0,none⟩) y).trans CT.out;have F1:=Q01 (Qc3 a.v u x)
       have B1:Hid (Below a.v.heap.size a.v (a.v.alloc (.cells #[.int .i64 u,.int .i64 x] 36)).drew):=((Below.refl _ _).alloc (Kaq _) _).drew;have OT:Hid (ownL Q8m 36 a.v E.heap.size (.slice none 0 0) ([]:List (Int × Int))):=World.ownsRow_nil _ _ _ _;have FR:Hid (RdL Q8m a.v.heap.size (a.v.alloc (.cells #[.int .i64 u,.int .i64 x] 36)).drew none ([]:List (Int × Int))):=.inl rfl;have G:=Q01 (show ([(u,x)]++([]:List (Int × Int))).length=1 by simp);clear D d;go_wp2
       go_region_law (first
        |(refine Q0i Qio rfl _ _ rfl a.v.heap.size _ [(u,x)] rfl F1.out none 0 a.v.heap.size ([]:List (Int × Int)) 0 ?h1 rfl ?h2 FR.out ?h3 ?h4 ?_;(case h1=> rfl);(case h2=> (intro _;rfl));(case h3=> (have:=i.out;simp <;> omega));(case h4=> (show a.v.heap.size≤(a.v.alloc _).heap.size;simp));intro v8 w8 P M _;have r:=Q01 (B1.out.grown M (by show a.v.heap.size≤(a.v.alloc _).heap.size;simp) (fun q h=> (F1.out.lt q h).1));obtain ⟨o8,c8,J,B⟩:=ownL.open (L:=Q8m) P;rw [G.out] at J;subst J;have H:=Q01 B;have A:=Q01 (Q03 OT.out r.out);have O:Hid (o8=none→c8=0):=QhL B (by simp);clear P M B)
        |(refine Q0i Qio rfl _ _ rfl E.heap.size _ ([]:List (Int × Int)) rfl A.out o8 c8 w8.heap.size ([(u,x)]++([]:List (Int × Int))) 1 G.out.symm rfl O.out H.out ?h3 ?h4 ?_;(case h3=> (have:=i.out;simp <;> omega));(case h4=> exact Kdq t r.out.size);intro v9 w9 R N _;have I:=Q01 (And.intro R ((f.out.trans (r.out.mono t)).grown N (Kdq t r.out.size) (fun q h=> (A.out.lt q h).1)));clear R N H A O r))
       all_goals (
        go_wp2;go_roundw
        case rel=> exact ⟨k+1,hlt,by go_num,(by unfold Hid;rw [HN.out,Q8e,←HJ.out];exact I.out.1),I.out.2⟩
        case measure=> simp [intOf];omega)
     ·skip
      go_wp2
      go_loopw [5] (fun jv wi=> ∃j:Nat,j≤plF (u,x) L∧jv=.int .i64 j∧Hid (ownL Q8m 36 wi E.heap.size (.slice (some ⟨g,0,none⟩) n cc) L)∧Hid (Below E.heap.size E wi))
       (fun jv _=> n - (intOf jv).toNat)
      case atStart=> exact ⟨0,Kcq _,rfl,HO,z⟩
      case round=>
       clear HO z e0 e1 e2 ai;obtain ⟨j,hj,rfl,D,d⟩:=hrel
       by_cases hjn:j < n
       ·skip
        have ak:j < L.length:=by rw [i.out];exact hjn
        have ar:(j:Int) < (n:Int):=by omega
        have ah:=Qem D.out j ak;obtain ⟨xx,al⟩:∃xx,L.getD j (0,0)=xx:=⟨_,rfl⟩;rw [al] at ah;have aw:=Q01 al;clear al;obtain ⟨xa,xp⟩:=xx;have aq:g < wr.heap.size:=(D.out.lt g rfl).2;have GA:=Grown.cell ah.1 aq;have GB:=Grown.cell ah.2 aq;have GT:=Grown.cell ((d.out.cell (p:=⟨w.heap.size,0,none⟩) y).trans CT.out) (Kbq y d.out.size);have G0:=Grown.cell ((d.out.cell (p:=⟨b,off+k * 5,none⟩) m).trans E0.out) (Kbq m d.out.size);have G1:=Grown.cell ((d.out.cell (p:=⟨b,off+k * 5+1,none⟩) m).trans E1.out) (Kbq m d.out.size)
        have G2:=Grown.cell ((d.out.cell (p:=⟨b,off+k * 5+2,none⟩) m).trans E2.out) (Kbq m d.out.size);clear ah;simp only at GA GB;have ad:=Q01 (fun p:Grown wr=> QfR xa xp u x p.v)
        have ag:Hid (ltF (L.getD j (0,0)) (u,x)=decide ((if xa=u then QaR xp x else QaR xa u) < 0)):=by unfold Hid;rw [aw.out];rfl
        generalize (if xa=u then QaR xp x else QaR xa u)=cv at ad ag
        by_cases hcl:cv < 0
        ·have HJ:=Q01 (Qgu hj ak (by rw [ag.out];exact decide_eq_true hcl))
         have ap:decide (cv < 0)=true:=decide_eq_true hcl;go_wp2
         (refine Q0b (by kernel_rfl) (by kernel_rfl) ?_;intro ac;(repeat (go_big_quiet_step ((go_at_call 64;exact Q15 _ (ad.out _)))));(with_reducible refine wpQuiet_nil ?_);intro _ V;obtain ⟨a,U⟩:=V;subst U)
         go_wp2;go_roundw
         case rel=> exact ⟨j+1,HJ.out,by go_num,Q03 D.out a.b,d.out.trans (a.b.mono d.out.size)⟩
         case measure=> simp [intOf];omega
        ·have HJ:=Q01 (QgU hj (by rw [ag.out];exact decide_eq_false hcl))
         have ap:decide (cv < 0)=false:=decide_eq_false hcl;go_wp2
         (refine Q0b (by kernel_rfl) (by kernel_rfl) ?_;intro ac;(repeat (go_big_quiet_step ((go_at_call 64;exact Q15 _ (ad.out _)))));(with_reducible refine wpQuiet_nil ?_);intro _ V;obtain ⟨a,U⟩:=V;subst U)
         clear GA GB GT G0 G1 G2 ad hjn ar ak ap hcl ag;have X:Hid (ownL Q8m 36 a.v E.heap.size (.slice (some ⟨g,0,none⟩) n cc) L):=Q03 D.out a.b;have f:=Q01 (d.out.trans (a.b.mono d.out.size));have t:=f.out.size;have e0:=(f.out.cell (p:=⟨b,off+k * 5,none⟩) m).trans E0.out;have e1:=(f.out.cell (p:=⟨b,off+k * 5+1,none⟩) m).trans E1.out;have e2:=(f.out.cell (p:=⟨b,off+k * 5+2,none⟩) m).trans E2.out;have an:=(f.out.cell (p:=⟨w.heap.size,0,none⟩) y).trans CT.out;have F1:=Q01 (Qc3 a.v u x)
         have B1:Hid (Below a.v.heap.size a.v (a.v.alloc (.cells #[.int .i64 u,.int .i64 x] 36)).drew):=((Below.refl _ _).alloc (Kaq _) _).drew
         have f2:j≤n:=by have:=HJ.out;omega
         have f1:j≤cc:=by have:=i.out;omega
         have OT:=Q01 (Qcj X.out (j:=j) (by rw [i.out];exact f2))
         have FR:Hid (RdL Q8m a.v.heap.size (a.v.alloc (.cells #[.int .i64 u,.int .i64 x] 36)).drew (if cc=j then some ⟨g,0,none⟩ else some ⟨g,j * 2,none⟩) (L.drop j)):=by
          have h:=X.out.rd.kept B1.out (Kaq _);unfold Hid
          split
          ·left;exact List.drop_eq_nil_of_le (by have:=i.out;omega)
          ·exact Qck j _ (by simp [Q8m]) h
         have G:=Q01 (show ([(u,x)]++(L.drop j)).length=n - j+1 by simp;have:=i.out;omega);clear D d;go_wp2
         go_region_law (first
          |(refine Q0i Qio rfl _ _ rfl a.v.heap.size _ [(u,x)] rfl F1.out _ (cc - j) a.v.heap.size (L.drop j) (n - j) ?h1 rfl ?h2 FR.out ?h3 ?h4 ?_;(case h1=> (have:=i.out;simp;omega));(case h2=> (intro h;split at h <;> cases h));(case h3=> (have:=i.out;simp <;> omega));(case h4=> (show a.v.heap.size≤(a.v.alloc _).heap.size;simp));intro v8 w8 P M _;have r:=Q01 (B1.out.grown M (by show a.v.heap.size≤(a.v.alloc _).heap.size;simp) (fun q h=> (F1.out.lt q h).1));obtain ⟨o8,c8,J,B⟩:=ownL.open (L:=Q8m) P;rw [G.out] at J;subst J;have H:=Q01 B;have A:=Q01 (Q03 OT.out r.out);have O:Hid (o8=none→c8=0):=QhL B (by simp);clear P M B)
          |(refine Q0i Qio rfl _ _ rfl E.heap.size _ (L.take j) rfl A.out o8 c8 w8.heap.size ([(u,x)]++(L.drop j)) (n - j+1) G.out.symm rfl O.out H.out ?h3 ?h4 ?_;(case h3=> (have:=i.out;simp <;> omega));(case h4=> exact Kdq t r.out.size);intro v9 w9 R N _;have I:=Q01 (And.intro R ((f.out.trans (r.out.mono t)).grown N (Kdq t r.out.size) (fun q h=> (A.out.lt q h).1)));clear R N H A O r))
         all_goals (
          go_wp2;go_roundw
          case rel=> exact ⟨k+1,hlt,by go_num,(by unfold Hid;rw [HN.out,Q8e,←HJ.out];exact I.out.1),I.out.2⟩
          case measure=> simp [intOf];omega)
       ·skip
        have au:j=n:=by omega
        have HJ:=Q01 (show j=plF (u,x) L by omega);have ay:decide ((j:Int) < (n:Int))=false:=decide_eq_false (by omega);go_wp2
        (refine Q0b (by kernel_rfl) (by kernel_rfl) ?_;intro ac;(repeat (go_big_quiet_step ((fail))));(with_reducible refine wpQuiet_nil ?_);intro _ V;obtain ⟨a,U⟩:=V;subst U)
        clear hjn au ay;have X:Hid (ownL Q8m 36 a.v E.heap.size (.slice (some ⟨g,0,none⟩) n cc) L):=Q03 D.out a.b;have f:=Q01 (d.out.trans (a.b.mono d.out.size));have t:=f.out.size;have e0:=(f.out.cell (p:=⟨b,off+k * 5,none⟩) m).trans E0.out;have e1:=(f.out.cell (p:=⟨b,off+k * 5+1,none⟩) m).trans E1.out;have e2:=(f.out.cell (p:=⟨b,off+k * 5+2,none⟩) m).trans E2.out;have an:=(f.out.cell (p:=⟨w.heap.size,0,none⟩) y).trans CT.out;have F1:=Q01 (Qc3 a.v u x)
        have B1:Hid (Below a.v.heap.size a.v (a.v.alloc (.cells #[.int .i64 u,.int .i64 x] 36)).drew):=((Below.refl _ _).alloc (Kaq _) _).drew
        have f2:j≤n:=by have:=HJ.out;omega
        have f1:j≤cc:=by have:=i.out;omega
        have OT:=Q01 (Qcj X.out (j:=j) (by rw [i.out];exact f2))
        have FR:Hid (RdL Q8m a.v.heap.size (a.v.alloc (.cells #[.int .i64 u,.int .i64 x] 36)).drew (if cc=j then some ⟨g,0,none⟩ else some ⟨g,j * 2,none⟩) (L.drop j)):=by
         have h:=X.out.rd.kept B1.out (Kaq _);unfold Hid
         split
         ·left;exact List.drop_eq_nil_of_le (by have:=i.out;omega)
         ·exact Qck j _ (by simp [Q8m]) h
        have G:=Q01 (show ([(u,x)]++(L.drop j)).length=n - j+1 by simp;have:=i.out;omega);clear D d;go_wp2
        go_region_law (first
         |(refine Q0i Qio rfl _ _ rfl a.v.heap.size _ [(u,x)] rfl F1.out _ (cc - j) a.v.heap.size (L.drop j) (n - j) ?h1 rfl ?h2 FR.out ?h3 ?h4 ?_;(case h1=> (have:=i.out;simp;omega));(case h2=> (intro h;split at h <;> cases h));(case h3=> (have:=i.out;simp <;> omega));(case h4=> (show a.v.heap.size≤(a.v.alloc _).heap.size;simp));intro v8 w8 P M _;have r:=Q01 (B1.out.grown M (by show a.v.heap.size≤(a.v.alloc _).heap.size;simp) (fun q h=> (F1.out.lt q h).1));obtain ⟨o8,c8,J,B⟩:=ownL.open (L:=Q8m) P;rw [G.out] at J;subst J;have H:=Q01 B;have A:=Q01 (Q03 OT.out r.out);have O:Hid (o8=none→c8=0):=QhL B (by simp);clear P M B)
         |(refine Q0i Qio rfl _ _ rfl E.heap.size _ (L.take j) rfl A.out o8 c8 w8.heap.size ([(u,x)]++(L.drop j)) (n - j+1) G.out.symm rfl O.out H.out ?h3 ?h4 ?_;(case h3=> (have:=i.out;simp <;> omega));(case h4=> exact Kdq t r.out.size);intro v9 w9 R N _;have I:=Q01 (And.intro R ((f.out.trans (r.out.mono t)).grown N (Kdq t r.out.size) (fun q h=> (A.out.lt q h).1)));clear R N H A O r))
        all_goals (
         go_wp2;go_roundw
         case rel=> exact ⟨k+1,hlt,by go_num,(by unfold Hid;rw [HN.out,Q8e,←HJ.out];exact I.out.1),I.out.2⟩
         case measure=> simp [intOf];omega)
   ·have e:k=l.length:=by omega
    subst e;have ai:=(z.out.cell (p:=⟨w.heap.size,0,none⟩) y).trans F;clear F;go_wp2;go_ret;exact ⟨_,rfl,by rw [HM.out];exact Q04 HO.out av,T.out.trans (z.out.mono av)⟩
theorem Qco {x y:Int}:QaR x y < 0↔x < y:=by
 unfold QaR
 constructor
 ·intro h
  split at h
  ·assumption
  ·split at h <;> omega
 ·intro h
  rw [if_pos h];decide
theorem Qfj {x y:Int × Int}:ltF x y=true↔(x.1 < y.1∨(x.1=y.1∧x.2 < y.2)):=by
 unfold ltF;rw [decide_eq_true_iff]
 by_cases h:x.1=y.1
 ·rw [if_pos h,Qco];omega
 ·rw [if_neg h,Qco];omega
theorem Q9V {x y:Int × Int}:ltF x y=false↔¬(x.1 < y.1∨(x.1=y.1∧x.2 < y.2)):=by
 rw [←Qfj];simp
theorem Qd5 {x y z:Int × Int} (h1:ltF x y=false) (h2:ltF y z=false):ltF x z=false:=by rw [Q9V] at *;omega
theorem QdW {x y:Int × Int} (h:ltF x y=true):ltF y x=false:=by rw [Qfj] at h;rw [Q9V];omega
def QiY (L:List (Int × Int)):Prop:=L.Pairwise (fun a b=> ltF b a=false)
theorem QgG (f:Int × Int):Q8e f []=[f]:=rfl
theorem QfG {f x:Int × Int} (L:List (Int × Int)) (h:ltF x f=true):Q8e f (x::L)=x::Q8e f L:=by
 have e:plF f (x::L)=plF f L+1:=by unfold plF;rw [List.takeWhile_cons,if_pos h];rfl
 unfold Q8e;rw [e,List.take_succ_cons,List.drop_succ_cons];rfl
theorem QeR {f x:Int × Int} (L:List (Int × Int)) (h:ltF x f=false):Q8e f (x::L)=f::x::L:=by
 have e:plF f (x::L)=0:=by unfold plF;rw [List.takeWhile_cons,if_neg (by rw [h];decide)];rfl
 unfold Q8e;rw [e];rfl
theorem Q81 (f:Int × Int):∀L:List (Int × Int),(Q8e f L).Perm (f::L)
 |[]=> List.Perm.refl _
 |x::L=> by
  cases h:ltF x f with
  |true=> rw [QfG L h];exact ((Q81 f L).cons x).trans (List.Perm.swap f x L)
  |false=> rw [QeR L h]
theorem QcI (f:Int × Int):∀L:List (Int × Int),QiY L→QiY (Q8e f L)
 |[],_=> by rw [QgG];exact List.pairwise_singleton _ _
 |x::L,hs=> by
  obtain ⟨b,h2⟩:=List.pairwise_cons.1 hs
  cases h:ltF x f with
  |true=>
   rw [QfG L h];refine List.pairwise_cons.2 ⟨fun y a=> ?_,QcI f L h2⟩
   rcases List.mem_cons.1 ((Q81 f L).mem_iff.1 a) with e|e
   ·rw [e];exact QdW h
   ·exact b y e
  |false=>
   rw [QeR L h];refine List.pairwise_cons.2 ⟨fun y a=> ?_,hs⟩
   rcases List.mem_cons.1 a with e|e
   ·rw [e];exact h
   ·exact Qd5 (b y e) h
theorem QcD:∀(a L:List (Int × Int)),QiY L→QiY (a.foldl (fun L f=> Q8e f L) L)∧(a.foldl (fun L f=> Q8e f L) L).Perm (a++L)
 |[],L,h=> ⟨h,List.Perm.refl _⟩
 |f::a,L,h=> by
  obtain ⟨b,h2⟩:=QcD a (Q8e f L) (QcI f L h);refine ⟨b,h2.trans ?_⟩;exact ((Q81 f L).append_left a).trans List.perm_middle
theorem Qde (fs:List (Int × Int)):(Q66 fs).Perm fs:=by have h:=(QcD fs [] List.Pairwise.nil).2;rwa [List.append_nil] at h
end Go.Proofs.YtpneolgdghbinaaGreat
