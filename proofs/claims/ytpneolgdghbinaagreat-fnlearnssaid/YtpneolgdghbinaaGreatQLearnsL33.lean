/- Several texts in one: SPe, SPf, SPok, SPdo, SPdo2, CutP, NoteMath, SCan, SDr4b, SDr4c, SDrP, CandMath, SCan2. -/
import Derived.Laws.StructEq
import Derived.Test.YtpneolgdghbinaaGreatQLearnsL28
namespace Go.Proofs.YtpneolgdghbinaaGreat
open Go.ChangeShapes Go.WideShapes Go.ChangeAt Go.RowKit Go.Joins
set_option linter.unusedVariables false
set_option linter.unusedSimpArgs false
set_option maxRecDepth 100000
set_option maxHeartbeats 40000000
def QaF (f g:Pt):Bool:=(List.range 8).all (fun i=> f i==g i)
theorem Qjt:Tryz.prog.underlying 184=some (.array 2 3):=by kernel_rfl
theorem Qi6:Tryz.prog.cellsOf 3=1:=by kernel_rfl
theorem QiU:(Tryz.prog.info? 186).isSome=true:=by kernel_rfl
theorem Qii:Tryz.prog.cellsOf 186=3:=by kernel_rfl
theorem Qcx (w:World) (a b:Int):(part 3 #[.int .i64 a,.int .i64 b] 0).run Tryz.prog w=.ok (.int .i64 a) w:=run_part_plain w (by kernel_rfl) rfl
theorem Qcr (w:World) (a b:Int):(part 3 #[.int .i64 a,.int .i64 b] 1).run Tryz.prog w=.ok (.int .i64 b) w:=run_part_plain w (by kernel_rfl) rfl
theorem Qh4 (w:World) (s:Bool) (a b:Int):(part 4 #[.bool s,.int .i64 a,.int .i64 b] 0).run Tryz.prog w=.ok (.bool s) w:=run_part_plain w (by kernel_rfl) rfl
theorem Qho (d:Nat) (a b f c:Int) (w:World):(Op.equalIn (d+1+1) 184 (.agg #[.int .i64 a,.int .i64 b]) (.agg #[.int .i64 f,.int .i64 c])).run Tryz.prog w=.ok (a==f && b==c) w:=by
 obtain ⟨i,hi⟩:∃i,Tryz.prog.info? 3=some i:=by
  cases h:Tryz.prog.info? 3 with
  |none=> have:=QbP;rw [h] at this;cases this
  |some i=> exact ⟨i,rfl⟩
 have g:=Tryz.underlying3;rw [run_equalIn_array w (d+1) _ _ Qjt hi,Qi6,show List.range 2=[0,1] from rfl];simp only [Op.eqItems,Nat.zero_mul,Nat.one_mul,Nat.mul_one,Sem.run_bind,Qcx,Qcr,Result.andThen_ok,run_equalIn_int w d 3 .i64 .i64 _ _ g]
 by_cases h1:a=f <;> by_cases h2:b=c <;> simp [h1,h2,Qcx,Qcr,Sem.run_bind,run_equalIn_int w d 3 .i64 .i64 _ _ g]
theorem Qem (w:World) (s:Bool) (a b:Int):(part 184 #[.bool s,.int .i64 a,.int .i64 b] 1).run Tryz.prog w=.ok (.agg #[.int .i64 a,.int .i64 b]) w:=by
 have d:(isAgg 184).run Tryz.prog w=.ok true w:=by simp [go_sem]
 have h2:(sizeOf 184).run Tryz.prog w=.ok 2 w:=by
  have c:(Tryz.prog.info? 184).map (·.size)=some 2:=by kernel_rfl
  cases hq:Tryz.prog.info? 184 with
  |none=> simp [hq] at c
  |some i=> simp [hq] at c;simp [sizeOf,typeInfo,hq,c]
 simp [part,Sem.run_bind,d,h2]
theorem Qj7 (d:Nat) (p q:Ip) (w:World):(Op.equalIn (d+1+1+1) 186 (ipv p) (ipv q)).run Tryz.prog w=.ok (p==q) w:=by
 obtain ⟨s,a,b⟩:=p;obtain ⟨s',a',b'⟩:=q
 have hS:Tryz.prog.underlying 186=some (.struct (Tryz.prog.fieldsOf 186)):=by kernel_rfl
 have hF:(Tryz.prog.fieldsOf 186).toList.map (fun f=> (f.name,f.type,f.offset))=[("some",4,0),("ids",184,1)]:=by kernel_rfl
 rw [run_equalIn_struct w (d+1+1) 186 _ _ hS (by kernel_rfl)];generalize (Tryz.prog.fieldsOf 186).toList=fs at hF ⊢
 match fs,hF with
 |[],hF=> simp at hF
 |[_],hF=> simp at hF
 |_::_::_::_,hF=> simp at hF
 |[f1,f2],hF=>
  simp only [List.map_cons,List.map_nil,List.cons.injEq,Prod.mk.injEq,and_true] at hF;obtain ⟨⟨n1,t1,o1⟩,n2,t2,o2⟩:=hF;have hb:=Tryz.underlying4
  have hn1:¬(f1.name= "_"):=by rw [n1];decide
  have hn2:¬(f2.name= "_"):=by rw [n2];decide
  have e:((s,a,b)==(s',a',b'))=(s==s' && (a==a' && b==b')):=rfl;rw [e];simp only [Op.eqFields,ne_eq,hn1,hn2,not_false_eq_true,if_true,t1,t2,o1,o2,Sem.run_bind,Qh4,Qem,Qho,Result.andThen_ok,run_equalIn_bool' w (d+1) 4 _ _ hb]
  by_cases h1:s=s'
  ·subst h1
   simp only [beq_self_eq_true,Bool.not_true,Bool.false_eq_true,if_false,Sem.run_bind,Qem,Qho,Result.andThen_ok,Bool.true_and]
   cases hc:(a==a' && b==b') <;> simp
  ·have h1':(s==s')=false:=beq_eq_false_iff_ne.2 h1
   rw [h1'];simp
theorem Qhk (w:World) (f:Pt) (i:Nat) (h:i < 8):(part 186 (ptA f) (i * 3)).run Tryz.prog w=.ok (ipv (f i)) w:=by
 simp [part,Sem.run_bind,Qi2,Qfz,Qch f i h]
theorem Qcv (d:Nat) (f g:Pt) (w:World):∀a:List Nat,(∀i∈a,i < 8)→(Op.eqItems (d+1+1+1) 186 3 (ptA f) (ptA g) a).run Tryz.prog w=.ok (a.all (fun i=> f i==g i)) w
 |[],_=> by simp [Op.eqItems]
 |i::a,h=> by
  have hi:=h i (by simp);simp only [Op.eqItems,Sem.run_bind,Qhk w f i hi,Qhk w g i hi,Qj7,Result.andThen_ok]
  cases hc:(f i==g i) with
  |false=> simp [hc]
  |true=> simp only [Bool.not_true,Bool.false_eq_true,if_false];rw [Qcv d f g w a (fun j b=> h j (by simp [b]))];simp [hc]
theorem Qj2 (f g:Pt) (w:World):(Op.equalIn 10000 188 (ptv f) (ptv g)).run Tryz.prog w=.ok (QaF f g) w:=by
 have hi:=QiU
 cases hq:Tryz.prog.info? 186 with
 |none=> rw [hq] at hi;cases hi
 |some i=>
  rw [show (10000:Nat)=9996+1+1+1+1 from rfl,run_equalIn_array w (9996+1+1+1) _ _ ptU hq,Qii];exact Qcv 9996 f g w _ (fun i hi=> by simpa using hi)
def Q28 (m:Pm):Bool:=Q1P m.key && Q0e m.l && decide (1≤m.ring.length) && decide (m.ring.length≤3) && (List.range m.ring.length).all (fun i=> Q1r (m.ring.getD i [])) && QaF (Q38 (m.ring.getD 0 [])) (Q2K m.key m.l)
theorem QgR {m:Pm} (h:Q1P m.key=false∨Q0e m.l=false∨m.ring.length < 1∨3 < m.ring.length∨(∃i,i < m.ring.length∧Q1r (m.ring.getD i [])=false)∨QaF (Q38 (m.ring.getD 0 [])) (Q2K m.key m.l)=false):Q28 m=false:=by
 rw [Bool.eq_false_iff];intro a;unfold Q28 at a;simp only [Bool.and_eq_true,decide_eq_true_eq,List.all_eq_true,List.mem_range] at a;obtain ⟨⟨⟨⟨⟨c,h2⟩,f⟩,g⟩,b⟩,d⟩:=a
 rcases h with h|h|h|h|⟨i,hi,h⟩|h
 ·rw [c] at h;cases h
 ·rw [h2] at h;cases h
 ·omega
 ·omega
 ·rw [b i hi] at h;cases h
 ·rw [d] at h;cases h
theorem QaW {m:Pm} (d:Q1P m.key=true) (h2:Q0e m.l=true) (a:1≤m.ring.length) (c:m.ring.length≤3) (b:∀i,i < m.ring.length→Q1r (m.ring.getD i [])=true) (f:QaF (Q38 (m.ring.getD 0 [])) (Q2K m.key m.l)=true):Q28 m=true:=by
 unfold Q28;simp only [Bool.and_eq_true,decide_eq_true_eq,List.all_eq_true,List.mem_range];exact ⟨⟨⟨⟨⟨d,h2⟩,a⟩,c⟩,b⟩,f⟩
def Qit (m:Pm) (o:Option Addr) (cap:Nat) (w:World) (e:Ending) (w':World):Prop:=∃vP,e=.returned (.tuple #[vP,.bool (Q28 m)])∧(Q28 m=true→∃o2 c2,vP=Q6A m.key (.slice o m.l.length cap) (.slice o2 m.ring.length c2)∧ownL Q20 188 w' w.heap.size (.slice o2 m.ring.length c2) (m.ring.map Q38))∧(Q28 m=false→vP=Q6A 0 (.slice none 0 0) (.slice none 0 0))∧Below w.heap.size w w'
theorem Q6d {m:Pm} {o:Option Addr} {cap:Nat} {w a:World} (h:Q28 m=false) (c:Below w.heap.size w a):Qit m o cap w (.returned (.tuple #[Q6A 0 (.slice none 0 0) (.slice none 0 0),.bool false])) a:=
 ⟨_,by rw [h],fun b=> absurd (h.symm.trans b) (by simp),fun _=> rfl,c⟩
theorem QhO (w:World) (f:Pt):RdL Q20 (w.alloc (.cells (ptA f) 188)).heap.size (w.alloc (.cells (ptA f) 188)) (some ⟨w.heap.size,0,none⟩) [f]:=ownL.rd (L:=Q20) (Q5y w f)
theorem QgB (R:List (List (List Int))) (i:Nat) (h:i < R.length):(R.map Q38).take (i+1)=(R.map Q38).take i++[Q38 (R.getD i [])]:=by
 have a:i < (R.map Q38).length:=by rw [List.length_map];exact h
 rw [List.take_succ_eq_append_getElem a];simp [h]
theorem Qes {w:World} {base:Nat} {v:Value} {a:List Pt} (h:ownL Q20 188 w base v a) (d:0 < a.length):∃g c,v=.slice (some ⟨g,0,none⟩) a.length c:=by
 rcases h.2 with ⟨_,f⟩|⟨g,cap,b,e,_⟩
 ·omega
 ·exact ⟨g,cap,e⟩
theorem Qex {w:World} {base g n c:Nat} {a:List (List (List Int))} (h:ownL Q20 188 w base (.slice (some ⟨g,0,none⟩) n c) (a.map Q38)) (d:0 < a.length):w.rangeAt g 0 (ptL (Q38 (a.getD 0 []))):=by
 rcases ownL.rds (L:=Q20) h with i|⟨b,off,e,_,r⟩
 ·have:(a.map Q38).length=0:=by rw [i];rfl
  rw [List.length_map] at this;omega
 ·injection e with e
  injection e with e1 e2 e3;subst e1 e2;have h2:=RdL.range r 0 (by rw [List.length_map];exact d)
  have f:(a.map Q38).getD 0 ptZ=Q38 (a.getD 0 []):=by simp [d]
  rw [f] at h2
  simpa using h2
theorem QiP {W:World} {B:Nat} {x y z:Value} {T:TypeId} (h:W.heap[B]? =some (.cells #[x,y,z] T (0,0))):W.cell? ⟨B,0,none⟩=some x∧W.cell? ⟨B,1,none⟩=some y∧W.cell? ⟨B,2,none⟩=some z∧W.frozen? ⟨B,0,none⟩=false∧W.frozen? ⟨B,1,none⟩=false∧W.frozen? ⟨B,2,none⟩=false:=
 ⟨Q00 h 0 _ rfl,Q00 h 1 _ rfl,Q00 h 2 _ rfl,Q02 h 0,Q02 h 1,Q02 h 2⟩
theorem QhZ:Tryz.prog.eqGuardType Tryz.prog.depth 188=false:=by kernel_rfl
theorem Q75 (key:Int) (o:Option Addr) (cap:Nat) (l:List Bk) (oR:Option Addr) (cR:Nat) (c:List (List (List Int))) (n:Nat) (au:n=c.length) (w:World) (hR:RdK w.heap.size w o l) (hG:RiR 0 w.heap.size w (.slice oR n cR) c) (hf:Q3q ⟨key,l,c⟩):
  Calls Tryz.prog 142 #[plv key (.slice o l.length cap) (.slice oR n cR)] w fun e w'=> Qit ⟨key,l,c⟩ o cap w e w':=by
 have t:=Q01 au;obtain ⟨am,aN,aE,ay,az⟩:=hf;dsimp only at am aN aE ay az;rw [←au] at aN;have HX:=Q01 ay;have HY:=Q01 az;clear au ay az aE;obtain ⟨W0,I⟩:∃W,((w.alloc (.cells #[.int .i64 key,.slice o l.length cap,.slice oR n cR] 29)).alloc (.cells #[.int .i64 0,.slice none 0 0,.slice none 0 0] 127))=W:=⟨_,rfl⟩;have U:=alb0v0v2 I;have P:=Q01 U;clear U;have zz:=alz0v0v2 I;obtain ⟨z0,z1,z2⟩:=alc3v0v2 I;have q:=alz0v1v2 I;obtain ⟨r0,r1,r2⟩:=alc3v1v2 I;obtain ⟨ac,aa,ad⟩:=alf3v1v2 I
 have a3:=Q01 (show W0.heap[w.heap.size+1]? =some (.cells #[.int .i64 0,.slice none 0 0,.slice none 0 0] 127 (0,0)) by rw [←I];exact Q1V w _ _ _);have a9:=q;have bf:=zz;have B:=Q01 (fun W=> Q10 key W);have D:=Q01 (Q34 o cap l W0 ((hR.kept P.out (Kaq _)).le P.out.size) am);have a4:=Q01 hR;have HG:=Q01 hG;clear hR hG;have N:=Q01 (fun h=> QgR (m:=⟨key,l,c⟩) h);have bk:=P.out.size
 cases hk:Q1P key with
 |false=>
  rw [hk] at B;go_enter Tryz.func142,Tryz.ntmps142;go_wp2_with (first|(go_at_call 115;refine (B.out _).mono ?_;rintro e w1 ⟨rfl,rfl⟩)|(go_at_call 175;refine D.out.mono ?_;rintro e w2 ⟨rfl,a⟩;have a:=Q01 a));refine bodyPost_ret (v:=.tuple #[Q6A 0 (.slice none 0 0) (.slice none 0 0),.bool false]) (by simp [results,Tryz.results142,go_sem,r0,r1,r2]) rfl (Q6d (N.out (.inl hk)) (Q0w P.out (Nat.le_succ _) _ _ _))
 |true=>
  rw [hk] at B;have HK:=Q01 hk;clear hk
  cases hbo:Q0e l with
  |false=>
   rw [hbo] at D;go_enter Tryz.func142,Tryz.ntmps142;go_wp2_with (first|(go_at_call 115;refine (B.out _).mono ?_;rintro e w1 ⟨rfl,rfl⟩)|(go_at_call 175;refine D.out.mono ?_;rintro e w2 ⟨rfl,a⟩;have s0:=bC a r0 q;have s1:=bC a r1 q;have s2:=bC a r2 q;have t0:=bF a ac q;have t1:=bF a aa q;have t2:=bF a ad q;have a:=Q01 a))
   refine bodyPost_ret (v:=.tuple #[Q6A 0 (.slice none 0 0) (.slice none 0 0),.bool false]) (by simp [results,Tryz.results142,go_sem,s0,s1,s2]) rfl (Q6d (N.out (.inr (.inl hbo))) (Q0w (P.out.trans (a.out.mono P.out.size)) (Nat.le_succ _) _ _ _))
  |true=>
   rw [hbo] at D;have aP:=Q01 hbo;clear hbo
   by_cases h1:(n:Int) < 1
   ·go_enter Tryz.func142,Tryz.ntmps142
    go_wp2_with (first|(go_at_call 115;refine (B.out _).mono ?_;rintro e w1 ⟨rfl,rfl⟩)|(go_at_call 175;refine D.out.mono ?_;rintro e w2 ⟨rfl,a⟩;have s0:=bC a r0 q;have s1:=bC a r1 q;have s2:=bC a r2 q;have t0:=bF a ac q;have t1:=bF a aa q;have t2:=bF a ad q;have y0:=bC a z0 zz;have y1:=bC a z1 zz;have y2:=bC a z2 zz;have a:=Q01 a))
    refine bodyPost_ret (v:=.tuple #[Q6A 0 (.slice none 0 0) (.slice none 0 0),.bool false]) (by simp [results,Tryz.results142,go_sem,s0,s1,s2]) rfl (Q6d (N.out (.inr (.inr (.inl (show c.length < 1 by have:=t.out;omega))))) (Q0w (P.out.trans (a.out.mono P.out.size)) (Nat.le_succ _) _ _ _))
   by_cases h3:(3:Int) < (n:Int)
   ·go_enter Tryz.func142,Tryz.ntmps142
    go_wp2_with (first|(go_at_call 115;refine (B.out _).mono ?_;rintro e w1 ⟨rfl,rfl⟩)|(go_at_call 175;refine D.out.mono ?_;rintro e w2 ⟨rfl,a⟩;have s0:=bC a r0 q;have s1:=bC a r1 q;have s2:=bC a r2 q;have t0:=bF a ac q;have t1:=bF a aa q;have t2:=bF a ad q;have y0:=bC a z0 zz;have y1:=bC a z1 zz;have y2:=bC a z2 zz;have a:=Q01 a))
    refine bodyPost_ret (v:=.tuple #[Q6A 0 (.slice none 0 0) (.slice none 0 0),.bool false]) (by simp [results,Tryz.results142,go_sem,s0,s1,s2]) rfl (Q6d (N.out (.inr (.inr (.inr (.inl (show 3 < c.length by have:=t.out;omega)))))) (Q0w (P.out.trans (a.out.mono P.out.size)) (Nat.le_succ _) _ _ _))
   have a2:1≤n:=by omega
   have aY:n≤3:=by omega
   go_enter Tryz.func142,Tryz.ntmps142;go_wp2_with (first|(go_at_call 115;refine (B.out _).mono ?_;rintro e w1 ⟨rfl,rfl⟩)|(go_at_call 175;refine D.out.mono ?_;rintro e w2 ⟨rfl,a⟩;have s0:=bC a r0 q;have s1:=bC a r1 q;have s2:=bC a r2 q;have t0:=bF a ac q;have t1:=bF a aa q;have t2:=bF a ad q;have y0:=bC a z0 zz;have y1:=bC a z1 zz;have y2:=bC a z2 zz;have a:=Q01 a));have bi:=a.out.size;have bb:=Q01 (P.out.trans (a.out.mono P.out.size));have bd:=Q01 ((a.out.block _ a9).trans a3.out);clear z0 z1 z2 r0 r1 r2 ac aa ad s0 s1 s2 t0 t1 t2 B D
   go_loopw [4,35] (fun rv iv wr=> ∃(i:Nat),i≤n∧iv=.int .i64 (i:Int)∧Hid (ownL Q20 188 wr w2.heap.size rv ((c.map Q38).take i))∧Hid (∀j,j < i→Q1r (c.getD j [])=true)∧Hid (Below w2.heap.size w2 wr))
    (fun _ iv _=> n - (intOf iv).toNat)
   case atStart=> exact ⟨0,Kcq _,rfl,by rw [List.take_zero];exact World.ownsRow_nil _ _ _ _,fun j hj=> absurd hj (Nat.not_lt_zero _),Below.refl _ _⟩
   case round=>
    rename_i rv _
    obtain ⟨i,bn,rfl,E,aQ,H⟩:=hrel;have aX:=H.out.size;have ae:=bC H.out y0 (by omega);have af:=bC H.out y1 (by omega);have aO:=bC H.out y2 (by omega);have r:=Q01 (bb.out.trans (H.out.mono (show w.heap.size≤w2.heap.size by omega)));have M:=(H.out.block _ (show w.heap.size+1 < w2.heap.size by omega)).trans bd.out
    by_cases hlt:i < n
    ·skip
     have bg:(i:Int) < (n:Int):=by omega
     have T:i < c.length:=by rw [←t.out];exact hlt
     obtain ⟨b,off,o',c',rfl,aZ,ai,aj⟩:=HG.out.at (Kaq _) i T;have aI:=bC r.out ai aZ;have aV:=(aj.kept r.out (Kaq _)).le r.out.size;have aq:=Q01 (QgB c i T);have aR:=HX.out i T;have aH:=HY.out i T;have aM:=Q01 (fun h=> N.out (.inr (.inr (.inr (.inr (.inl ⟨i,T,h⟩))))));have A:=Q01 (Q3L o' c' (c.getD i []) wr aV aR aH);clear ai aj aV aR aH;obtain ⟨ll,ao⟩:∃ll,c.getD i []=ll:=⟨_,rfl⟩;rw [ao] at aI aq aM A;have a0:=Q01 ao;clear ao;obtain ⟨m,hm⟩:∃m,ll.length=m:=⟨_,rfl⟩;rw [hm] at aI A;clear hm
     cases hok:Q1r ll with
     |false=>
      rw [hok] at A;simp only [Bool.false_eq_true,if_false] at A;have g0:=Q02 M 0;have g1:=Q02 M 1;have g2:=Q02 M 2;go_wp2_with fail;refine A.out.mono ?_;rintro e y ⟨rfl,C⟩;have aB:=C.size;have al:=(C.block _ (show w.heap.size+1 < wr.heap.size by omega)).trans M;obtain ⟨R,G⟩:∃W,y.alloc (.cells (ptA ptZ) 188)=W:=⟨_,rfl⟩
      have s:R.heap[w.heap.size+1]? =some (.cells #[.int .i64 0,.slice none 0 0,.slice none 0 0] 127 (0,0)):=by rw [←G];exact (Below.heap_alloc _ _ _ (by omega)).trans al
      have a5:Hid (Below w.heap.size w R):=by rw [←G];exact (r.out.trans (C.mono r.out.size)).alloc (by have:=r.out.size;omega) _
      have q0:R.cell? ⟨w.heap.size+1,0,none⟩=some (.int .i64 0):=Q00 s 0 _ rfl;have aU:=Q02 s 0;have q1:R.cell? ⟨w.heap.size+1,1,none⟩=some (.slice none 0 0):=Q00 s 1 _ rfl;have aL:=Q02 s 1;have q2:R.cell? ⟨w.heap.size+1,2,none⟩=some (.slice none 0 0):=Q00 s 2 _ rfl;have aA:=Q02 s 2;clear C al s;go_wp2_with (first|(refine Q0R rfl (.tmp 7) (.tmp 42) rfl y.heap.size ptZ ptZ rfl rfl (World.alloc_heap_new y _) ?_;rw [World.setRow_alloc_new,G]))
      refine bodyPost_ret (v:=.tuple #[Q6A 0 (.slice none 0 0) (.slice none 0 0),.bool false]) (by simp [results,Tryz.results142,go_sem,q0,q1,q2]) rfl (Q6d (aM.out hok) (Q0w a5.out (Nat.le_succ _) _ _ _))
     |true=>
      have aC:=Q01 hok;rw [hok] at A;simp only [if_true] at A;clear hok;obtain ⟨f,hf⟩:∃f,Q38 ll=f:=⟨_,rfl⟩;rw [hf] at A aq;clear hf;go_wp2_with fail;refine A.out.mono ?_;rintro e y ⟨rfl,C⟩;have aB:=C.size;obtain ⟨R,G⟩:∃W,y.alloc (.cells (ptA f) 188)=W:=⟨_,rfl⟩
      have J:Below wr.heap.size wr R:=by rw [←G];exact C.alloc aB _
      have a7:Hid (R.heap[y.heap.size]? =some (.cells (ptA f) 188 (0,0))):=by rw [←G];exact World.alloc_heap_new y _
      have aK:=Q01 (Q03 E.out J);have a8:=Q01 (H.out.trans (J.mono aX));have bh:=J.size;obtain ⟨oq,cq,eq,_⟩:=ownL.open (L:=Q20) E.out;have aS:=Q01 (show ((c.map Q38).take i).length=i by rw [List.length_take,List.length_map];omega);rw [aS.out] at eq;subst eq;clear C J;obtain ⟨W3,ax⟩:∃W,R.alloc (.cells (ptA f) 188)=W:=⟨_,rfl⟩;have ag:=alb0v0v1 ax;have bc:=Q01 (show RdL Q20 W3.heap.size W3 (some ⟨R.heap.size,0,none⟩) [f] by rw [←ax];exact QhO R f);have ah:=Q01 (Q03 aK.out ag);have O:=Q01 (a8.out.trans (ag.mono (by omega)));have bl:=ag.size;clear ag
      go_wp2_with (first|(refine Q0R rfl (.tmp 7) (.tmp 42) rfl y.heap.size f ptZ rfl rfl (World.alloc_heap_new y _) ?_;rw [World.setRow_alloc_new,G])|(refine Q1S rfl (.tmp 7) rfl y.heap.size rfl f a7.out ?_)|(refine Q2c rfl (.tmp 48) rfl f rfl ?_;rw [ax])|(at_builtin;refine Q08 Qiy rfl (.tmp 47) (.tmp 49) rfl w2.heap.size (.slice oq i cq) ((c.map Q38).take i) rfl ah.out (some ⟨R.heap.size,0,none⟩) 1 W3.heap.size [f] 1 rfl rfl (by simp) bc.out (by rw [aS.out];simp;omega) (by omega) ?_));intro v8 w8 aG aD _
      have a6:=Q01 (O.out.grown aD (by omega) (fun k h=> (ah.out.lt k h).1));have a1:=Q01 aG;clear aG aD;go_wp2;go_roundw
      case rel=> exact ⟨i+1,by omega,by go_num,by rw [aq.out];exact a1.out,(fun j hj=> by rcases Nat.lt_succ_iff_lt_or_eq.1 hj with h'|h';(· exact aQ.out j h');(· rw [h',a0.out];exact aC.out)),a6.out⟩
      case measure=> simp [intOf];omega
    ·skip
     have e:i=n:=by omega
     subst e;have aF:=Q01 (show (c.map Q38).take i=c.map Q38 by rw [t.out,show c.length=(c.map Q38).length by simp,List.take_length]);rw [aF.out] at E;obtain ⟨g,cq,eq⟩:=Qes E.out (by rw [List.length_map,←t.out];omega);rw [List.length_map,←t.out] at eq;subst eq;have Y:=Q01 (show wr.rangeAt g 0 (ptL (Q38 (c.getD 0 []))) from Qex E.out (by rw [←t.out];omega));have aW:g < wr.heap.size:=(E.out.lt g rfl).2
     have an:=Q01 (fun h6=> QaW (m:=⟨key,l,c⟩) HK.out aP.out (by show 1≤c.length;rw [←t.out];exact a2) (by show c.length≤3;rw [←t.out];exact aY) (fun j hj=> aQ.out j (by rw [t.out];exact hj)) h6);have av:=Q01 (fun h6=> N.out (.inr (.inr (.inr (.inr (.inr h6))))));have ar:=Q01 (Q1J key o cap l wr.drew ((a4.out.kept r.out (Kaq _)).le r.out.size) am HK.out aP.out);have aw:=Q01 (fun W=> Qj2 (Q38 (c.getD 0 [])) (Q2K key l) W);obtain ⟨f0,ap⟩:∃f,Q38 (c.getD 0 [])=f:=⟨_,rfl⟩;obtain ⟨f1,ab⟩:∃f,Q2K key l=f:=⟨_,rfl⟩;dsimp only at an av;rw [ap,ab] at an av aw
     rw [ap] at Y;rw [ab] at ar;clear ap ab
     have bm:(0:Int) < (i:Int):=by omega
     have be:¬(i=0):=by omega
     have bj:=QhZ;have aT:=Q01 M;clear M h1 h3;have X:=Q01 (fun y (hb:Below wr.heap.size wr y)=> QiP ((hb.block _ (show w.heap.size+1 < wr.heap.size by omega)).trans aT.out))
     have z:w.heap.size < wr.heap.size:=by omega
     cases hr:QaF f0 f1 with
     |false=>
      go_wp2;refine wp_region_held_drew (S:=(fun w'=> w'.rangeAt g 0 (ptL f0)∧w'.cell? ⟨w.heap.size,0,none⟩=some (.int .i64 key)∧w'.cell? ⟨w.heap.size,1,none⟩=some (.slice o l.length cap))) (by kernel_rfl) ⟨Y.out,ae,af⟩ (fun hHeld=> ?_);refine wpAnyH_take (i:=0) (oi:=_) (v:=.slice (some ⟨g,0,none⟩) i cq) rfl (by kernel_rfl) (by kernel_rfl) (by kernel_rfl) (fun _ _ _ h=> h) (Or.inl ⟨by rfl,fun w d=> by obtain ⟨_,u,x⟩:=d;go_simp⟩) hHeld ?_
      try simp only [Act.put,List.setIfInBounds_toArray,List.set_cons_zero,List.set_cons_succ]
      refine wpAnyH_take (i:=1) (oi:=_) (v:=.pointer (some ⟨g,0,none⟩)) rfl (by kernel_rfl) (by kernel_rfl) (by kernel_rfl) (fun _ _ _ h=> h) (Or.inl ⟨by rfl,fun w d=> by obtain ⟨_,u,x⟩:=d;go_simp⟩) hHeld ?_
      try simp only [Act.put,List.setIfInBounds_toArray,List.set_cons_zero,List.set_cons_succ]
      refine wpAnyH_take (i:=2) (oi:=_) (v:=ptv f0) rfl (by kernel_rfl) (by kernel_rfl) (by kernel_rfl) (fun _ _ _ h=> h) (yieldsIf_load_mid (by rfl) _ _ rfl g 0 rfl (ptL f0) _ (fun w h=> h.1) ptU rfl ptI) hHeld ?_
      try simp only [Act.put,List.setIfInBounds_toArray,List.set_cons_zero,List.set_cons_succ]
      refine wpAnyH_take (i:=3) (oi:=_) (v:=.pointer (some ⟨w.heap.size,0,none⟩)) rfl (by kernel_rfl) (by kernel_rfl) (by kernel_rfl) (fun _ _ _ h=> h) (Or.inl ⟨by rfl,fun w d=> by obtain ⟨_,u,x⟩:=d;go_simp⟩) hHeld ?_
      try simp only [Act.put,List.setIfInBounds_toArray,List.set_cons_zero,List.set_cons_succ]
      refine wpAnyH_take (i:=4) (oi:=_) (v:=.int .i64 key) rfl (by kernel_rfl) (by kernel_rfl) (by kernel_rfl) (fun _ _ _ h=> h) (Or.inl ⟨by rfl,fun w d=> by obtain ⟨_,u,x⟩:=d;go_simp⟩) hHeld ?_
      try simp only [Act.put,List.setIfInBounds_toArray,List.set_cons_zero,List.set_cons_succ]
      refine wpAnyH_take (i:=5) (oi:=_) (v:=.pointer (some ⟨w.heap.size,1,none⟩)) rfl (by kernel_rfl) (by kernel_rfl) (by kernel_rfl) (fun _ _ _ h=> h) (Or.inl ⟨by rfl,fun w d=> by obtain ⟨_,u,x⟩:=d;go_simp⟩) hHeld ?_
      try simp only [Act.put,List.setIfInBounds_toArray,List.set_cons_zero,List.set_cons_succ]
      refine wpAnyH_take (i:=6) (oi:=_) (v:=.slice o l.length cap) rfl (by kernel_rfl) (by kernel_rfl) (by kernel_rfl) (fun _ _ _ h=> h) (Or.inl ⟨by rfl,fun w d=> by obtain ⟨_,u,x⟩:=d;go_simp⟩) hHeld ?_
      try simp only [Act.put,List.setIfInBounds_toArray,List.set_cons_zero,List.set_cons_succ]
      refine wpAnyH_ready (rs:=[7]) (by kernel_rfl) (by simp) ?_;refine AllReadyH.cons rfl (fun K hK=> ?_) AllReadyH.nil
      go_simp
      go_at_call 118;refine ar.out.mono ?_;rintro e y ⟨rfl,p⟩;replace p:Below wr.heap.size wr y:=(Below.drew (Below.refl _ _)).trans p;have k0:=bC p ae z;have k1:=bC p af z;have k2:=bC p aO z;have F:=Q1s Y.out p aW;obtain ⟨q0,q1,q2,aU,aL,aA⟩:=X.out y p;have O:=Q01 p;clear p;go_wp2_with fail;refine hK.out _ _ ⟨F,k0,k1⟩ (fun hHeld=> ?_);clear hK K
      try simp only [Act.put,List.setIfInBounds_toArray,List.set_cons_zero,List.set_cons_succ]
      refine wpAnyH_ready (rs:=[8]) (by kernel_rfl) (by simp) ?_;refine AllReadyH.cons rfl (fun K hK=> ?_) AllReadyH.nil;have Z:=aw.out y;rw [hr] at Z
      go_simp
      refine hK.out _ _ ⟨F,k0,k1⟩ (fun hHeld=> ?_);clear hK K hHeld Z
      try simp only [Act.put,List.setIfInBounds_toArray,List.set_cons_zero,List.set_cons_succ]
      refine wpAnyH_done (by kernel_rfl) ?_ _;clear F;go_wp2;refine bodyPost_ret (v:=.tuple #[Q6A 0 (.slice none 0 0) (.slice none 0 0),.bool false]) (by simp [results,Tryz.results142,go_sem,q0,q1,q2]) rfl (Q6d (av.out hr) (Q0w (r.out.trans (O.out.mono r.out.size)) (Nat.le_succ _) _ _ _))
     |true=>
      go_wp2;refine wp_region_held_drew (S:=(fun w'=> w'.rangeAt g 0 (ptL f0)∧w'.cell? ⟨w.heap.size,0,none⟩=some (.int .i64 key)∧w'.cell? ⟨w.heap.size,1,none⟩=some (.slice o l.length cap))) (by kernel_rfl) ⟨Y.out,ae,af⟩ (fun hHeld=> ?_);refine wpAnyH_take (i:=0) (oi:=_) (v:=.slice (some ⟨g,0,none⟩) i cq) rfl (by kernel_rfl) (by kernel_rfl) (by kernel_rfl) (fun _ _ _ h=> h) (Or.inl ⟨by rfl,fun w d=> by obtain ⟨_,u,x⟩:=d;go_simp⟩) hHeld ?_
      try simp only [Act.put,List.setIfInBounds_toArray,List.set_cons_zero,List.set_cons_succ]
      refine wpAnyH_take (i:=1) (oi:=_) (v:=.pointer (some ⟨g,0,none⟩)) rfl (by kernel_rfl) (by kernel_rfl) (by kernel_rfl) (fun _ _ _ h=> h) (Or.inl ⟨by rfl,fun w d=> by obtain ⟨_,u,x⟩:=d;go_simp⟩) hHeld ?_
      try simp only [Act.put,List.setIfInBounds_toArray,List.set_cons_zero,List.set_cons_succ]
      refine wpAnyH_take (i:=2) (oi:=_) (v:=ptv f0) rfl (by kernel_rfl) (by kernel_rfl) (by kernel_rfl) (fun _ _ _ h=> h) (yieldsIf_load_mid (by rfl) _ _ rfl g 0 rfl (ptL f0) _ (fun w h=> h.1) ptU rfl ptI) hHeld ?_
      try simp only [Act.put,List.setIfInBounds_toArray,List.set_cons_zero,List.set_cons_succ]
      refine wpAnyH_take (i:=3) (oi:=_) (v:=.pointer (some ⟨w.heap.size,0,none⟩)) rfl (by kernel_rfl) (by kernel_rfl) (by kernel_rfl) (fun _ _ _ h=> h) (Or.inl ⟨by rfl,fun w d=> by obtain ⟨_,u,x⟩:=d;go_simp⟩) hHeld ?_
      try simp only [Act.put,List.setIfInBounds_toArray,List.set_cons_zero,List.set_cons_succ]
      refine wpAnyH_take (i:=4) (oi:=_) (v:=.int .i64 key) rfl (by kernel_rfl) (by kernel_rfl) (by kernel_rfl) (fun _ _ _ h=> h) (Or.inl ⟨by rfl,fun w d=> by obtain ⟨_,u,x⟩:=d;go_simp⟩) hHeld ?_
      try simp only [Act.put,List.setIfInBounds_toArray,List.set_cons_zero,List.set_cons_succ]
      refine wpAnyH_take (i:=5) (oi:=_) (v:=.pointer (some ⟨w.heap.size,1,none⟩)) rfl (by kernel_rfl) (by kernel_rfl) (by kernel_rfl) (fun _ _ _ h=> h) (Or.inl ⟨by rfl,fun w d=> by obtain ⟨_,u,x⟩:=d;go_simp⟩) hHeld ?_
      try simp only [Act.put,List.setIfInBounds_toArray,List.set_cons_zero,List.set_cons_succ]
      refine wpAnyH_take (i:=6) (oi:=_) (v:=.slice o l.length cap) rfl (by kernel_rfl) (by kernel_rfl) (by kernel_rfl) (fun _ _ _ h=> h) (Or.inl ⟨by rfl,fun w d=> by obtain ⟨_,u,x⟩:=d;go_simp⟩) hHeld ?_
      try simp only [Act.put,List.setIfInBounds_toArray,List.set_cons_zero,List.set_cons_succ]
      refine wpAnyH_ready (rs:=[7]) (by kernel_rfl) (by simp) ?_;refine AllReadyH.cons rfl (fun K hK=> ?_) AllReadyH.nil
      go_simp
      go_at_call 118;refine ar.out.mono ?_;rintro e y ⟨rfl,p⟩;replace p:Below wr.heap.size wr y:=(Below.drew (Below.refl _ _)).trans p;have k0:=bC p ae z;have k1:=bC p af z;have k2:=bC p aO z;have F:=Q1s Y.out p aW;obtain ⟨q0,q1,q2,aU,aL,aA⟩:=X.out y p;have O:=Q01 p;clear p;go_wp2_with fail;refine hK.out _ _ ⟨F,k0,k1⟩ (fun hHeld=> ?_);clear hK K
      try simp only [Act.put,List.setIfInBounds_toArray,List.set_cons_zero,List.set_cons_succ]
      refine wpAnyH_ready (rs:=[8]) (by kernel_rfl) (by simp) ?_;refine AllReadyH.cons rfl (fun K hK=> ?_) AllReadyH.nil;have Z:=aw.out y;rw [hr] at Z
      go_simp
      refine hK.out _ _ ⟨F,k0,k1⟩ (fun hHeld=> ?_);clear hK K hHeld Z
      try simp only [Act.put,List.setIfInBounds_toArray,List.set_cons_zero,List.set_cons_succ]
      refine wpAnyH_done (by kernel_rfl) ?_ _;clear F;go_wp2;refine bodyPost_ret (v:=.tuple #[Q6A key (.slice o l.length cap) (.slice (some ⟨g,0,none⟩) i cq),.bool true]) (by simp [results,Tryz.results142,go_sem,q0,q1,q2]) rfl ?_;have ak:=an.out hr
      have V:w.heap.size+1 < w2.heap.size:=by omega
      have aJ:=Q0o (Q0o (Q0o (Q03 E.out O.out) V 0 (.int .i64 key)) V 1 (.slice o l.length cap)) V 2 (.slice (some ⟨g,0,none⟩) i cq);have ba:=t.out;subst ba;exact ⟨_,by rw [ak],fun _=> ⟨some ⟨g,0,none⟩,cq,rfl,Q04 aJ (by omega)⟩,fun h=> absurd (h.symm.trans ak) (by simp),Q0w (r.out.trans (O.out.mono r.out.size)) (Nat.le_succ _) _ _ _⟩
theorem Qd0 {l:List Int} {j:Nat} (b:j < l.length) (h:idB (l.getD j 0)=false):Q0T l=false:=by
 unfold Q0T
 by_cases h2:l.length=2
 ·have a:¬(l.length=0):=by omega
  match j,b,h with
  |0,_,h=> simp only [h];simp [a]
  |1,_,h=> simp only [h];simp [a]
  |j+2,b,_=> omega
 ·have a:¬(l.length=0):=by omega
  simp [h2,a]
theorem Qb2 {aa bb:List (List Int)}:∀k,Q0V aa bb k=0→∀i,i < k→aa.getD i []=bb.getD i []
 |0,_=> fun i hi=> absurd hi (Nat.not_lt_zero _)
 |k+1,h=> fun i hi=> by
  have c:=(Q4P aa bb k).1
  by_cases e:aa.getD k []=bb.getD k []
  ·have b:=Q3d (aa:=aa) (bb:=bb) (k:=k) rfl rfl e
   rcases Nat.lt_succ_iff_lt_or_eq.1 hi with a|a
   ·exact Qb2 k (by omega) i a
   ·rw [a];exact e
  ·have b:=Q4t (aa:=aa) (bb:=bb) (k:=k) rfl rfl e
   omega
theorem Q3x {aa bb:List (List Int)}:∀k,(∀i,i < k→aa.getD i []=bb.getD i [])→Q0V aa bb k=0
 |0,_=> rfl
 |k+1,h=> by
  rw [←Q3d (aa:=aa) (bb:=bb) (k:=k) rfl rfl (h k (by omega))];exact Q3x k (fun i hi=> h i (by omega))
theorem Q71 {ll:List (List Int)} (h:Q1r ll=true):ll.length=8∧∀i,i < 8→Q0T (ll.getD i [])=true:=by
 unfold Q1r at h;simp only [Bool.and_eq_true,decide_eq_true_eq,List.all_eq_true,List.mem_range] at h;exact h
theorem Qh6 {key:Int} {l:List Bk} {ll:List (List Int)} (j:Q0e l=true) (h:Q1r ll=true):Q1i ll (Q37 key l)=0↔QaF (Q38 ll) (Q2K key l)=true:=by
 obtain ⟨f,g⟩:=Q71 h
 have hm:Q1i ll (Q37 key l)=Q0V ll (Q37 key l) 8:=by rw [Q1i,if_pos ⟨f,Q1Q key l⟩]
 rw [hm]
 have d:∀i,i < 8→(Q37 key l).getD i []=Q19 key i l:=fun i hi=> by unfold Q37;rw [Q2k _ _ _ hi]
 constructor
 ·intro a
  unfold QaF;rw [List.all_eq_true];intro i hi
  have b:i < 8:=by simpa using hi
  have c:=Qb2 8 a i b;unfold Q38 Q2K;rw [c,d i b];exact beq_self_eq_true _
 ·intro a
  unfold QaF at a;rw [List.all_eq_true] at a;refine Q3x 8 (fun i hi=> ?_);have c:=eq_of_beq (a i (by simpa using hi));unfold Q38 Q2K at c;rw [d i hi,←Q4w (g i hi),c,Q4w (Q9d key i j)]
theorem Qek {m:Pm} (d:Q1P m.key=true) (h2:Q0e m.l=true) (b:1≤m.ring.length) (c:m.ring.length≤3) (a:∀i,i < m.ring.length→Q1r (m.ring.getD i [])=true) (f:Q1i (m.ring.getD 0 []) (Q37 m.key m.l)=0):Q28 m=true:=
 QaW d h2 b c a ((Qh6 h2 (a 0 (by omega))).1 f)
def Qab (m:Pm) (k i g:Int):Pm:=if (Q28 m && Q0J k i g)=true then (match doL m.l k i g with|none=> m|some l=> ⟨m.key,l,(Q37 m.key l::m.ring).take 3⟩) else pm0
def Qi5 (m:Pm) (k i g:Int):Bool:=(Q28 m && Q0J k i g) && (doL m.l k i g).isSome
theorem Q1B {m:Pm} (h:Q28 m=true):Q1P m.key=true∧Q0e m.l=true∧1≤m.ring.length∧m.ring.length≤3∧∀i,i < m.ring.length→Q1r (m.ring.getD i [])=true:=by
 unfold Q28 at h;simp only [Bool.and_eq_true,decide_eq_true_eq,List.all_eq_true,List.mem_range] at h;obtain ⟨⟨⟨⟨⟨d,h2⟩,a⟩,c⟩,b⟩,f⟩:=h;exact ⟨d,h2,a,c,b⟩
theorem Q9P {l:List Int} (h:Q0T l=true):l.length≤2:=by
 unfold Q0T at h;simp only [Bool.or_eq_true,Bool.and_eq_true,decide_eq_true_eq] at h;omega
theorem QgG {ll:List (List Int)} (h:Q1r ll=true):Q4h (Q38 ll)=ll:=by
 obtain ⟨c,b⟩:=Q71 h;apply List.ext_getElem
 ·rw [Q3R,c]
 ·intro i a h2
  have hi:i < 8:=by rw [Q3R] at a;exact a
  have e:ll.getD i []=ll[i]:=by simp [h2]
  have:=Q4w (b i hi);rw [e] at this;simp [Q4h,Q38,h2,this]
theorem QaP {R:List (List (List Int))} (h:∀i,i < R.length→Q1r (R.getD i [])=true):(R.map Q38).map Q4h=R:=by
 apply List.ext_getElem
 ·simp
 ·intro i a h2
  have:=QgG (h i h2)
  have e:R.getD i []=R[i]:=by simp [h2]
  rw [e] at this;simp [this]
theorem Qeb {key:Int} {l:List Bk} {R:List (List (List Int))} (a:Q0e l=true) (h:∀i,i < R.length→Q1r (R.getD i [])=true):(Q2K key l::(R.map Q38).take 2).map Q4h=(Q37 key l::R).take 3:=by
 rw [List.map_cons,Q9R key a,List.map_take,QaP h]
 rfl
theorem Q77 {α:Type} (l:List α) (n i:Nat) (d:α) (h:i < n):(l.take n).getD i d=l.getD i d:=by
 rw [List.getD_eq_getElem?_getD,List.getElem?_take,if_pos h,←List.getD_eq_getElem?_getD]
theorem QhE {w:World} {base C:Nat} {d h:Option Addr} {q f k:Nat} {a c:List Hd} {key:Int} {l:List Bk} {R:List (List (List Int))} (z:C≤w.heap.size) (u:ownL Q0H 51 w base (.slice d q f) (((h,8,k)::a).take 3)) (s:ownL Q0H 47 w base (.slice h 8 k) c) (y:Tab (fun b=> Q19 key b l) 8 w base c) (x:a.length=R.length) (v:∀i,i < R.length→RcT 0 C w (hv a i) (R.getD i [])):RcR 0 w.heap.size w (.slice d q f) ((Q37 key l::R).take 3):=by
 refine ⟨((h,8,k)::a).take 3,by simp [x],(InRow.ri (InRow.of u)).mono (Kcq _) (Kaq _),fun i hi=> ?_⟩
 have g:i < 3:=by simp at hi;omega
 have r:hv (((h,8,k)::a).take 3) i=hv ((h,8,k)::a) i:=by unfold hv;rw [Q77 _ _ _ _ g]
 have t:((Q37 key l::R).take 3).getD i []=(Q37 key l::R).getD i []:=Q77 _ _ _ _ g;rw [r,t]
 cases i with
 |zero=>
  have n:=QbW y;refine ⟨c,n.len,(InRow.ri (InRow.of s)).mono (Kcq _) (Kaq _),fun j p=> ⟨(InRow.ri (InRow.of (n.row j p))).mono (Kcq _) (Kaq _),InRow.cap (InRow.of (n.row j p))⟩⟩
 |succ i=>
  have m:i < R.length:=by simp at hi;omega
  exact RcT.mon.go (v i m) (Kaq _) z
theorem Qim {m:Pm} (k i g:Int) (h:Q3q m):Q3q (Qab m k i g):=by
 unfold Qab
 split
 ·next p=>
  split
  ·exact h
  ·next l w=>
   simp only [Bool.and_eq_true] at p;obtain ⟨B,h2,z,A,v⟩:=Q1B p.1;have f:=Q8I h2 p.2 w;have r:=Q4k f
   have a:∀q,q < ((Q37 m.key l::m.ring).take 3).length→(((Q37 m.key l::m.ring).take 3).getD q []).length=8∧∀j,((((Q37 m.key l::m.ring).take 3).getD q []).getD j []).length≤2:=fun q b=> by
    have c:q < 3:=by simp at b;omega
    have t:((Q37 m.key l::m.ring).take 3).getD q []=(Q37 m.key l::m.ring).getD q []:=Q77 _ _ _ _ c;rw [t]
    cases q with
    |zero=> exact ⟨Q1Q _ _,fun j=> Q6W _ _ j⟩
    |succ q=>
     have n:q < m.ring.length:=by simp at b;omega
     obtain ⟨x,u⟩:=Q71 (v q n);refine ⟨x,fun j=> ?_⟩
     by_cases s:j < 8
     ·exact Q9P (u j s)
     ·show ((m.ring.getD q []).getD j []).length≤2
      rw [List.getD_eq_getElem?_getD,List.getElem?_eq_none (by omega)];simp
   have y:((Q37 m.key l::m.ring).take 3).length≤3:=by simp;omega
   have d:∀q,Qb8 ((Q37 m.key l::m.ring).take 3) q≤16:=fun q=> by
    by_cases b:q < ((Q37 m.key l::m.ring).take 3).length
    ·unfold Qb8 szT
     have:=Q5d (Qiu (((Q37 m.key l::m.ring).take 3).getD q [])) 2 (fun j=> (a q b).2 j) (((Q37 m.key l::m.ring).take 3).getD q []).length;rw [(a q b).1] at this ⊢;omega
    ·unfold Qb8;rw [List.getD_eq_getElem?_getD,List.getElem?_eq_none (by omega)];exact Kcq _
   refine ⟨by show l.length≤_;omega,by show ((Q37 m.key l::m.ring).take 3).length≤_;omega, ?_,fun q b=> ?_,fun q b j s=> ?_⟩
   ·have:=Q5d (Qb8 ((Q37 m.key l::m.ring).take 3)) 16 d ((Q37 m.key l::m.ring).take 3).length
    show QdP (Qb8 ((Q37 m.key l::m.ring).take 3)) ((Q37 m.key l::m.ring).take 3).length≤_
    have hm:16 * ((Q37 m.key l::m.ring).take 3).length≤48:=by omega
    omega
   ·have:=(a q b).1
    show (((Q37 m.key l::m.ring).take 3).getD q []).length≤_
    omega
   ·have:=(a q b).2 j
    show ((((Q37 m.key l::m.ring).take 3).getD q []).getD j []).length≤_
    omega
 ·exact ⟨by simp [pm0],by simp [pm0],by simp [pm0,szR,QdP],fun i hi=> absurd hi (Nat.not_lt_zero _),fun i hi=> absurd hi (Nat.not_lt_zero _)⟩
theorem Q9v (v:Value) (m:Pm) (k i g:Int) (w:World) (hR:RcPm 0 w.heap.size w v m) (hf:Q3q m):
  Calls Tryz.prog 123 #[v,cmd k i g] w fun e w'=> ∃v',e=.returned (.tuple #[v',.bool (Qi5 m k i g)])∧InPm w.heap.size w'.heap.size w' v' (Qab m k i g)∧Below w.heap.size w w':=by
 obtain ⟨vb,vr,rfl,an,ax,rr,ap⟩:=hR;obtain ⟨o,c,rfl,r⟩:=an.open
 have ah:o=none→c=0:=fun e=> ax _ _ (by rw [e])
 obtain ⟨oR,cR,rfl⟩:=RiR.len (RcR.ri rr)
 have aM:oR=none→cR=0:=fun e=> ap _ _ (by rw [e])
 clear an ax ap;obtain ⟨key,l,x⟩:=m;dsimp only at *;have H:=Q01 (show Qab ⟨key,l,x⟩ k i g=if (Q28 ⟨key,l,x⟩ && Q0J k i g)=true then (match doL l k i g with|none=> ⟨key,l,x⟩|some l'=> ⟨key,l',(Q37 key l'::x).take 3⟩) else pm0 from rfl);have I:=Q01 (show Qi5 ⟨key,l,x⟩ k i g=((Q28 ⟨key,l,x⟩ && Q0J k i g) && (doL l k i g).isSome) from rfl);have aD:=Q01 (fun h:Q28 ⟨key,l,x⟩=true=> Q1B h);have az:=Q01 hf;obtain ⟨au,aO,ar,aA,aC⟩:=hf;dsimp only at au aO ar aA aC;clear ar aA aC
 obtain ⟨W0,O⟩:∃W,(((w.alloc (.cells #[.int .i64 key,.slice o l.length c,.slice oR x.length cR] 29)).alloc (.cells #[.int .i64 k,.int .i64 i,.int .i64 g] 77)).alloc (.cells #[.int .i64 0,.slice none 0 0,.slice none 0 0] 29))=W:=⟨_,rfl⟩;have ab:=alb0v0v3 O;have s:=Q01 ab;clear ab;have j:=alz0v0v3 O;obtain ⟨E,G,F⟩:=alc3v0v3 O;have f:=alz0v1v3 O;obtain ⟨u0,u1,u2⟩:=alc3v1v3 O;have d:=alz0v2v3 O;obtain ⟨D,C,B⟩:=alc3v2v3 O;obtain ⟨p,u,t⟩:=alf3v2v3 O;have aU:=d
 have al:=Q01 (Q75 key o c l oR cR x x.length rfl W0 ((r.kept s.out (Kaq _)).le s.out.size) (RiR.mon.go (RiR.stp.go (RcR.ri rr) (Stp.of (lo:=0) (hi:=0) s.out) (.inl (Kcq _))) (Kaq _) s.out.size) az.out);have X:=Q01 (fun W=> Q4S k i g W);have aF:=Q01 r;clear r rr;have aS:=s.out.size
 cases hp:Q28 ⟨key,l,x⟩ with
 |false=>
  rw [hp] at H I;go_enter Tryz.func123,Tryz.ntmps123;go_wp2_with fail;refine al.out.mono ?_;rintro e v1 ⟨vP,rfl,_,h2,a⟩;have e2:=h2 hp;subst e2;rw [hp];clear h2;replace E:=bC a E j;replace G:=bC a G j;replace F:=bC a F j;replace j:=Kbq j a.size;replace u0:=bC a u0 f;replace u1:=bC a u1 f;replace u2:=bC a u2 f;replace f:=Kbq f a.size;replace D:=bC a D d;replace C:=bC a C d;replace B:=bC a B d;replace p:=bF a p d;replace u:=bF a u d;replace t:=bF a t d;replace d:=Kbq d a.size;replace s:=Q01 (s.out.trans (a.mono s.out.size))
  clear a;have A:Below v1.heap.size v1 (v1.alloc (.cells #[.int .i64 0,.slice none 0 0,.slice none 0 0] 127)):=(Below.refl _ _).alloc (Kaq _) _;replace E:=bC A E j;replace G:=bC A G j;replace F:=bC A F j;replace j:=Kbq j A.size;replace u0:=bC A u0 f;replace u1:=bC A u1 f;replace u2:=bC A u2 f;replace f:=Kbq f A.size;replace D:=bC A D d;replace C:=bC A C d;replace B:=bC A B d;replace p:=bF A p d;replace u:=bF A u d;replace t:=bF A t d;replace d:=Kbq d A.size;replace s:=Q01 (s.out.trans (A.mono s.out.size));clear A
  generalize Q0J k i g=ck at *;go_wp2_with fail;refine (X.out _).mono ?_;rintro e v2 ⟨rfl,a⟩;replace E:=bC a E j;replace G:=bC a G j;replace F:=bC a F j;replace j:=Kbq j a.size;replace u0:=bC a u0 f;replace u1:=bC a u1 f;replace u2:=bC a u2 f;replace f:=Kbq f a.size;replace D:=bC a D d;replace C:=bC a C d;replace B:=bC a B d;replace p:=bF a p d;replace u:=bF a u d;replace t:=bF a t d;replace d:=Kbq d a.size;replace s:=Q01 (s.out.trans (a.mono s.out.size));clear a;generalize (if ck=true then Q9s k i g else .nilIface)=dv;go_wp2
  refine bodyPost_ret (v:=.tuple #[plv 0 (.slice none 0 0) (.slice none 0 0),.bool false]) (by simp [results,Tryz.results123,go_sem,D,C,B]) rfl ⟨plv 0 (.slice none 0 0) (.slice none 0 0),by rw [I.out];simp, ?_,Q0w s.out (by omega) _ _ _⟩;rw [H.out,if_neg (by simp)];exact Qas _ _ _ (Q0w s.out (show w.heap.size≤w.heap.size+1+1 by omega) _ _ _).size
 |true=>
  obtain ⟨hk,ag,aK,aI,ak⟩:=aD.out hp;dsimp only at hk ag aK aI ak;have HK:=Q01 hk;have aJ:=Q01 ag;have aq:=Q01 ak;have aV:=Q4k ag;clear hk ag ak aD;rw [hp] at H I;have HP:=Q01 hp;clear hp
  cases hc:Q0J k i g with
  |false=>
   rw [hc] at X H I;simp only [Bool.false_eq_true,if_false] at X;go_enter Tryz.func123,Tryz.ntmps123;go_wp2_with fail;refine al.out.mono ?_;rintro e v1 ⟨vP,rfl,h1,_,a⟩;obtain ⟨o2,c2,e2,M⟩:=h1 HP.out;dsimp only at e2 M;subst e2;rw [HP.out];have y:=Q01 M;have aG:=a.size;have aj:=Q01 (Q5O M);clear h1 M;have V:=Q01 (show (x.map Q38).length=x.length by simp);obtain ⟨n,hn⟩:∃n,x.length=n:=⟨_,rfl⟩;rw [hn] at y V ⊢;have HN:=Q01 hn;clear hn;replace E:=bC a E j;replace G:=bC a G j;replace F:=bC a F j;replace j:=Kbq j a.size;replace u0:=bC a u0 f
   replace u1:=bC a u1 f;replace u2:=bC a u2 f;replace f:=Kbq f a.size;replace D:=bC a D d;replace C:=bC a C d;replace B:=bC a B d;replace p:=bF a p d;replace u:=bF a u d;replace t:=bF a t d;replace d:=Kbq d a.size;replace s:=Q01 (s.out.trans (a.mono s.out.size));clear a;obtain ⟨W1,T⟩:∃W,(v1.alloc (.cells #[.int .i64 key,.slice o l.length c,.slice o2 n c2] 127))=W:=⟨_,rfl⟩;have b:=alb0v0v1 T;replace E:=bC b E j;replace G:=bC b G j;replace F:=bC b F j;replace j:=Kbq j b.size;replace u0:=bC b u0 f
   replace u1:=bC b u1 f;replace u2:=bC b u2 f;replace f:=Kbq f b.size;replace D:=bC b D d;replace C:=bC b C d;replace B:=bC b B d;replace p:=bF b p d;replace u:=bF b u d;replace t:=bF b t d;replace d:=Kbq d b.size;replace y:=Q01 (Q03 y.out b);replace s:=Q01 (s.out.trans (b.mono s.out.size));clear b;have z:=alz0v0v1 T;obtain ⟨Z,Y,U⟩:=alc3v0v1 T;have ao:=z;go_wp2_with fail;refine (X.out W1).mono ?_;rintro e v2 ⟨rfl,a⟩;have aL:=a.size;replace E:=bC a E j;replace G:=bC a G j
   replace F:=bC a F j;replace j:=Kbq j a.size;replace u0:=bC a u0 f;replace u1:=bC a u1 f;replace u2:=bC a u2 f;replace f:=Kbq f a.size;replace D:=bC a D d;replace C:=bC a C d;replace B:=bC a B d;replace p:=bF a p d;replace u:=bF a u d;replace t:=bF a t d;replace d:=Kbq d a.size;replace Z:=bC a Z z;replace Y:=bC a Y z;replace U:=bC a U z;replace z:=Kbq z a.size;replace y:=Q01 (Q03 y.out a);replace s:=Q01 (s.out.trans (a.mono s.out.size));clear a;go_wp2
   refine bodyPost_ret (v:=.tuple #[plv 0 (.slice none 0 0) (.slice none 0 0),.bool false]) (by simp [results,Tryz.results123,go_sem,D,C,B]) rfl ⟨plv 0 (.slice none 0 0) (.slice none 0 0),by rw [I.out];simp, ?_,Q0w s.out (by omega) _ _ _⟩;rw [H.out,if_neg (by simp)];exact Qas _ _ _ (Q0w s.out (show w.heap.size≤w.heap.size+1+1 by omega) _ _ _).size
  |true=>
   have am:=Q01 (fun W h1=> Q3k o c l k i g W h1 ah (by omega) hc);have aw:=Q01 (fun l' h=> Q8I aJ.out hc h (m:=l'));rw [hc] at X H I;simp only [if_true] at X;clear hc;generalize Q9s k i g=dv at *;go_enter Tryz.func123,Tryz.ntmps123;go_wp2_with fail;refine al.out.mono ?_;rintro e v1 ⟨vP,rfl,h1,_,a⟩;obtain ⟨o2,c2,e2,M⟩:=h1 HP.out;dsimp only at e2 M;subst e2;rw [HP.out];have y:=Q01 M;have aG:=a.size;have aj:=Q01 (Q5O M);clear h1 M;have V:=Q01 (show (x.map Q38).length=x.length by simp);obtain ⟨n,hn⟩:∃n,x.length=n:=⟨_,rfl⟩;rw [hn] at y V ⊢;have HN:=Q01 hn
   clear hn;replace E:=bC a E j;replace G:=bC a G j;replace F:=bC a F j;replace j:=Kbq j a.size;replace u0:=bC a u0 f;replace u1:=bC a u1 f;replace u2:=bC a u2 f;replace f:=Kbq f a.size;replace D:=bC a D d;replace C:=bC a C d;replace B:=bC a B d;replace p:=bF a p d;replace u:=bF a u d;replace t:=bF a t d;replace d:=Kbq d a.size;replace s:=Q01 (s.out.trans (a.mono s.out.size));clear a;obtain ⟨W1,T⟩:∃W,(v1.alloc (.cells #[.int .i64 key,.slice o l.length c,.slice o2 n c2] 127))=W:=⟨_,rfl⟩;have b:=alb0v0v1 T
   replace E:=bC b E j;replace G:=bC b G j;replace F:=bC b F j;replace j:=Kbq j b.size;replace u0:=bC b u0 f;replace u1:=bC b u1 f;replace u2:=bC b u2 f;replace f:=Kbq f b.size;replace D:=bC b D d;replace C:=bC b C d;replace B:=bC b B d;replace p:=bF b p d;replace u:=bF b u d;replace t:=bF b t d;replace d:=Kbq d b.size;replace y:=Q01 (Q03 y.out b);replace s:=Q01 (s.out.trans (b.mono s.out.size));clear b;have z:=alz0v0v1 T;obtain ⟨Z,Y,U⟩:=alc3v0v1 T;have ao:=z
   go_wp2_with fail;refine (X.out W1).mono ?_;rintro e v2 ⟨rfl,a⟩;have aL:=a.size;replace E:=bC a E j;replace G:=bC a G j;replace F:=bC a F j;replace j:=Kbq j a.size;replace u0:=bC a u0 f;replace u1:=bC a u1 f;replace u2:=bC a u2 f;replace f:=Kbq f a.size;replace D:=bC a D d;replace C:=bC a C d;replace B:=bC a B d;replace p:=bF a p d;replace u:=bF a u d;replace t:=bF a t d;replace d:=Kbq d a.size;replace Z:=bC a Z z;replace Y:=bC a Y z;replace U:=bC a U z;replace z:=Kbq z a.size;replace y:=Q01 (Q03 y.out a)
   replace s:=Q01 (s.out.trans (a.mono s.out.size));clear a;have aa:=Q01 (am.out v2 ((aF.out.kept s.out (Kaq _)).le s.out.size))
   cases hdo:doL l k i g with
   |none=>
    rw [hdo] at aa H I;simp only [Option.isSome_none] at aa;clear hdo;go_wp2_with fail;refine (aa.out).mono ?_;rintro e v3 ⟨v5,rfl,_,a⟩;have aH:=a.size
    skip
    replace E:=bC a E j;replace G:=bC a G j;replace F:=bC a F j;replace j:=Kbq j a.size;replace u0:=bC a u0 f;replace u1:=bC a u1 f;replace u2:=bC a u2 f;replace f:=Kbq f a.size;replace D:=bC a D d;replace C:=bC a C d;replace B:=bC a B d;replace p:=bF a p d;replace u:=bF a u d;replace t:=bF a t d;replace d:=Kbq d a.size;replace Z:=bC a Z z;replace Y:=bC a Y z;replace U:=bC a U z;replace z:=Kbq z a.size;replace y:=Q01 (Q03 y.out a);replace s:=Q01 (s.out.trans (a.mono s.out.size));clear a
    have R:=Q01 (Q5R key o c l o2 c2 (x.map Q38) v3 ((aF.out.kept s.out (Kaq _)).le s.out.size) ah au (ownL.rds (L:=Q20) y.out) (by rw [V.out];have:=HN.out;omega));rw [QaP aq.out,V.out] at R;go_wp2_with fail;refine (R.out).mono ?_;rintro e v4 ⟨v9,rfl,ad,a⟩;have ae:=Q01 ad;have aT:=a.size;clear ad;obtain ⟨o9,c9,N,J,e9⟩:∃(o9:Option Addr) (c9:Nat) (N:Option Addr) (J:Nat),v9=plv key (.slice o9 l.length c9) (.slice N x.length J):=ae.out.opn;subst e9;replace E:=bC a E j;replace G:=bC a G j;replace F:=bC a F j;replace j:=Kbq j a.size
    replace u0:=bC a u0 f;replace u1:=bC a u1 f;replace u2:=bC a u2 f;replace f:=Kbq f a.size;replace D:=bC a D d;replace C:=bC a C d;replace B:=bC a B d;replace p:=bF a p d;replace u:=bF a u d;replace t:=bF a t d;replace d:=Kbq d a.size;replace Z:=bC a Z z;replace Y:=bC a Y z;replace U:=bC a U z;replace z:=Kbq z a.size;replace y:=Q01 (Q03 y.out a);replace s:=Q01 (s.out.trans (a.mono s.out.size));clear a;go_wp2
    refine bodyPost_ret (v:=.tuple #[plv key (.slice o9 l.length c9) (.slice N x.length J),.bool false]) (by simp [results,Tryz.results123,go_sem,D,C,B]) rfl ⟨plv key (.slice o9 l.length c9) (.slice N x.length J),by rw [I.out];simp, ?_,Q0w s.out (by omega) _ _ _⟩;rw [H.out,if_pos (by simp),Q2V];exact InPm.mono (ae.out.step (Q3f v4 (w.heap.size+1+1) _ _ _) (.inl (by omega))) (by omega)
   |some mm=>
    have af:=Q01 (aw.out mm hdo);rw [hdo] at aa H I;simp only [Option.isSome_some] at aa;dsimp only at H;clear hdo aw am;go_wp2_with fail;refine (aa.out).mono ?_;rintro e v3 ⟨v5,rfl,ac,a⟩;have aH:=a.size;have ai:=ac mm rfl;obtain ⟨o5,c5,e5,_⟩:=ownL.open (L:=Q1d) ai;subst e5;have P:=Q01 ai;clear ac ai;replace E:=bC a E j;replace G:=bC a G j;replace F:=bC a F j;replace j:=Kbq j a.size;replace u0:=bC a u0 f;replace u1:=bC a u1 f;replace u2:=bC a u2 f;replace f:=Kbq f a.size;replace D:=bC a D d;replace C:=bC a C d
    replace B:=bC a B d;replace p:=bF a p d;replace u:=bF a u d;replace t:=bF a t d;replace d:=Kbq d a.size;replace Z:=bC a Z z;replace Y:=bC a Y z;replace U:=bC a U z;replace z:=Kbq z a.size;replace y:=Q01 (Q03 y.out a);replace s:=Q01 (s.out.trans (a.mono s.out.size));clear a;have aR:=Q4k af.out;have av:=Q01 (Q9E key o l.length c o2 c2 o5 c5 mm v3 (x.map Q38) (by rw [V.out];have:=HN.out;omega) (ownL.rds (L:=Q20) y.out) aj.out.1 aj.out.2 (ownL.rds (L:=Q1d) P.out) (by omega) HK.out af.out);rw [V.out] at av;go_wp2_with fail
    refine (av.out).mono ?_;rintro e v6 ⟨o7,c7,rfl,aE,a⟩;have aQ:=a.size;have aN:=Q01 aE;clear aE;replace E:=bC a E j;replace G:=bC a G j;replace F:=bC a F j;replace j:=Kbq j a.size;replace u0:=bC a u0 f;replace u1:=bC a u1 f;replace u2:=bC a u2 f;replace f:=Kbq f a.size;replace D:=bC a D d;replace C:=bC a C d;replace B:=bC a B d;replace p:=bF a p d;replace u:=bF a u d;replace t:=bF a t d;replace d:=Kbq d a.size;replace Z:=bC a Z z;replace Y:=bC a Y z;replace U:=bC a U z;replace z:=Kbq z a.size
    replace y:=Q01 (Q03 y.out a);replace P:=Q01 (Q03 P.out a);replace s:=Q01 (s.out.trans (a.mono s.out.size));clear a;have R:=Q01 (Q5R key o5 c5 mm o7 c7 (Q2K key mm::(x.map Q38).take 2) v6 (ownL.rds (L:=Q1d) P.out) (Q5s P.out) (by omega) (ownL.rds (L:=Q20) aN.out) (by simp;omega));rw [Qeb af.out aq.out] at R;obtain ⟨nq,aB⟩:∃q,(Q2K key mm::(x.map Q38).take 2).length=q:=⟨_,rfl⟩;rw [aB] at R ⊢;obtain ⟨rg,ay⟩:∃q,(Q37 key mm::x).take 3=q:=⟨_,rfl⟩;rw [ay] at R H;clear aB ay;go_wp2_with fail;refine (R.out).mono ?_;rintro e v7 ⟨v9,rfl,ad,a⟩
    have ae:=Q01 ad;have aP:=a.size;clear ad;obtain ⟨o9,c9,N,J,e9⟩:∃(o9:Option Addr) (c9:Nat) (N:Option Addr) (J:Nat),v9=plv key (.slice o9 mm.length c9) (.slice N rg.length J):=ae.out.opn;subst e9;replace E:=bC a E j;replace G:=bC a G j;replace F:=bC a F j;replace j:=Kbq j a.size;replace u0:=bC a u0 f;replace u1:=bC a u1 f;replace u2:=bC a u2 f;replace f:=Kbq f a.size;replace D:=bC a D d;replace C:=bC a C d;replace B:=bC a B d;replace p:=bF a p d;replace u:=bF a u d;replace t:=bF a t d;replace d:=Kbq d a.size
    replace Z:=bC a Z z;replace Y:=bC a Y z;replace U:=bC a U z;replace z:=Kbq z a.size;replace y:=Q01 (Q03 y.out a);replace P:=Q01 (Q03 P.out a);replace s:=Q01 (s.out.trans (a.mono s.out.size));clear a;go_wp2;refine bodyPost_ret (v:=.tuple #[plv key (.slice o9 mm.length c9) (.slice N rg.length J),.bool true]) (by simp [results,Tryz.results123,go_sem,D,C,B]) rfl ⟨plv key (.slice o9 mm.length c9) (.slice N rg.length J),by rw [I.out];simp, ?_,Q0w s.out (by omega) _ _ _⟩;rw [H.out,if_pos (by simp),Q2V]
    exact InPm.mono (ae.out.step (Q3f v7 (w.heap.size+1+1) _ _ _) (.inl (by omega))) (by omega)
theorem InPm.stps:Stps InPm:=⟨fun h s hd=> InPm.step h s hd⟩
theorem Q0f {W:World} {B:Nat} {c:Array Value} {t:TypeId} (h:W.heap[B]? =some (.cells c t (0,0))) (j:Nat) (u:Value) (hj:c[j]? =some u):W.cell? ⟨B,j,none⟩=some u:=Q00 h j u hj
theorem Qjr {P:Nat→Nat→World→Value→Pm→Prop} (t:Stps P) {b W:World} {B lo hi:Nat} {f:Value} {a:Pm} {o d:Option Addr} {c g:Nat} {s x y:Value} (r:W.heap[B]? =some (.cells #[s,x,y] 29 (0,0))) (v:Below b.heap.size b W) (n:b.heap.size≤B) (j:P lo hi W (plv a.key (.slice o a.l.length c) (.slice d a.ring.length g)) a) (z:b.heap.size≤lo) (h2:hi≤W.heap.size) (u:B < lo∨hi≤B):
  ∃B' lo hi k m h i,Value.pointer (some ⟨B,0,none⟩)=.pointer (some ⟨B',0,none⟩)∧f=f∧Hid ((setP W B (.int .i64 a.key) (.slice o a.l.length c) (.slice d a.ring.length g)).heap[B']? =some (.cells #[.int .i64 a.key,.slice k a.l.length m,.slice h a.ring.length i] 29 (0,0)))∧Hid (Below b.heap.size b (setP W B (.int .i64 a.key) (.slice o a.l.length c) (.slice d a.ring.length g)))∧b.heap.size≤B'∧B' < (setP W B (.int .i64 a.key) (.slice o a.l.length c) (.slice d a.ring.length g)).heap.size∧Hid (P lo hi (setP W B (.int .i64 a.key) (.slice o a.l.length c) (.slice d a.ring.length g)) (plv a.key (.slice k a.l.length m) (.slice h a.ring.length i)) a)∧b.heap.size≤lo∧hi≤(setP W B (.int .i64 a.key) (.slice o a.l.length c) (.slice d a.ring.length g)).heap.size∧(B' < lo∨hi≤B'):=by
 have w:=Q06 r 0 (.int .i64 a.key);have q:=Q06 w 1 (.slice o a.l.length c);have p:=Q06 q 2 (.slice d a.ring.length g);exact ⟨B,lo,hi,o,c,d,g,rfl,rfl,p,Q0w v n _ _ _,n,(Array.getElem?_eq_some_iff.1 p).1,t.go j (Q3f W B _ _ _) (by omega),z,by rw [Q2V];exact h2,u⟩
theorem Qjf {P:Nat→Nat→World→Value→Pm→Prop} (p:Stps P) {b W:World} {lo hi:Nat} {f:Value} {a:Pm} {o d:Option Addr} {c g:Nat} (k:Below b.heap.size b W) (j:P lo hi W (plv a.key (.slice o a.l.length c) (.slice d a.ring.length g)) a) (q:b.heap.size≤lo) (h2:hi≤W.heap.size):
  ∃B' lo hi m n h i,Value.pointer (some ⟨W.heap.size,0,none⟩)=.pointer (some ⟨B',0,none⟩)∧f=f∧Hid ((W.alloc (.cells #[.int .i64 a.key,.slice o a.l.length c,.slice d a.ring.length g] 29)).heap[B']? =some (.cells #[.int .i64 a.key,.slice m a.l.length n,.slice h a.ring.length i] 29 (0,0)))∧Hid (Below b.heap.size b (W.alloc (.cells #[.int .i64 a.key,.slice o a.l.length c,.slice d a.ring.length g] 29)))∧b.heap.size≤B'∧B' < (W.alloc (.cells #[.int .i64 a.key,.slice o a.l.length c,.slice d a.ring.length g] 29)).heap.size∧Hid (P lo hi (W.alloc (.cells #[.int .i64 a.key,.slice o a.l.length c,.slice d a.ring.length g] 29)) (plv a.key (.slice m a.l.length n) (.slice h a.ring.length i)) a)∧b.heap.size≤lo∧hi≤(W.alloc (.cells #[.int .i64 a.key,.slice o a.l.length c,.slice d a.ring.length g] 29)).heap.size∧(B' < lo∨hi≤B'):=
 ⟨W.heap.size,lo,hi,o,c,d,g,rfl,rfl,World.alloc_heap_new W _,k.alloc k.size _,k.size,by simp,p.go j (Stp.of (lo:=0) (hi:=0) ((Below.refl _ _).alloc (Kaq _) _)) (.inl (Kcq _)),q,by simp;omega,.inr h2⟩
theorem Qci {cs:List Cd} {a i g:Int} {m:List Bk} (j:(Q1n cs cs.length).isSome=true) (b:Q0J a i g=true) (d:doL (Q0k cs cs.length) a i g=some m):(Q1n (cs++[(a,i,g)]) (cs++[(a,i,g)]).length).isSome=true:=by
 obtain ⟨l,c⟩:=Option.isSome_iff_exists.1 j
 have f:Q0k cs cs.length=l:=by unfold Q0k;rw [c];rfl
 rw [f] at d
 have h:Q1n (cs++[(a,i,g)]) (cs++[(a,i,g)]).length=Q6M (Q1n cs cs.length) (a,i,g):=by
  unfold Q1n;rw [List.take_length,List.take_length,List.foldl_append]
  rfl
 rw [h,c];unfold Q6M;simp [b,d]
theorem QdY {cs:List Cd} {c:Cd}:∀q,q≤cs.length→Q1n (cs++[c]) q=Q1n cs q:=fun q h=> by
 unfold Q1n;rw [List.take_append_of_le_length h]
theorem QcO {cs:List Cd} {c:Cd}:∀q,q≤cs.length→Q1u (cs++[c]) q=Q1u cs q
 |0,_=> rfl
 |q+1,h=> by
  unfold Q1u;rw [QcO q (by omega)];unfold Q0k;rw [QdY (q+1) h]
theorem QeO (cs:List Cd):∀q,(Q1u cs q).getD 0 []=Q0k cs q
 |0=> rfl
 |q+1=> by unfold Q1u;simp
theorem QaT {key safe:Int} {cs:List Cd} (h:Q0s key cs safe=true):∀q,q≤cs.length→∀l∈Q1u cs q,Q0e l=true
 |0,_,l,a=> by
  have:l=[]:=by simpa [Q1u] using a
  subst this;exact (Q33 h 0 (by omega)).1
 |q+1,hq,l,a=> by
  unfold Q1u at a;have a:=List.mem_of_mem_take a
  rcases List.mem_cons.1 a with e|a
  ·rw [e];exact (Q33 h (q+1) (by omega)).1
  ·exact QaT h q (by omega) l a
theorem QgF (cs:List Cd):∀q,1≤(Q1u cs q).length
 |0=> by simp [Q1u]
 |q+1=> by unfold Q1u;simp
theorem Q41 {m:Jm} (h:Q0s m.key m.l m.safe=true):Q28 (Q0Q m)=true:=by
 have e:Q0Q m=⟨m.key,Q0k m.l m.l.length,Q1e m.key (Q1u m.l m.l.length)⟩:=by unfold Q0Q;rw [if_pos h]
 have d:=Q7X m.l m.l.length;have c:=QgF m.l m.l.length
 have b:(Q1e m.key (Q1u m.l m.l.length)).length=(Q1u m.l m.l.length).length:=by simp [Q1e]
 have a:=(Q33 h m.l.length (by omega)).1;rw [e];refine Qek (Q0X h).1 a (by dsimp only;omega) (by dsimp only;omega) (fun i hi=> ?_) ?_
 ·dsimp only at hi ⊢
  rw [Q2X _ _ _ (by omega)];refine Qal m.key (QaT h m.l.length (Kaq _) _ ?_);rw [List.getD_eq_getElem?_getD,List.getElem?_eq_getElem (by omega)];exact List.getElem_mem _
 ·dsimp only
  rw [Q2X _ _ _ (by omega),QeO];unfold Q1i;rw [if_pos ⟨Q1Q _ _,Q1Q _ _⟩];exact Q3x 8 (fun _ _=> rfl)
theorem QcF {m:Jm} {a i g:Int} (h:Q3z m a i g=true):Q0s m.key m.l m.safe=true∧Q0s (Q3G m a i g).key (Q3G m a i g).l (Q3G m a i g).safe=true∧Qi5 (Q0Q m) a i g=true∧Qab (Q0Q m) a i g=Q0Q (Q3G m a i g)∧(Q3G m a i g).safe=((Q3G m a i g).l.length:Int)∧1≤(Q0Q (Q3G m a i g)).ring.length∧(∀j,j < (Q0Q (Q3G m a i g)).ring.length→((Q0Q (Q3G m a i g)).ring.getD j []).length=8):=by
 unfold Q3z at h;rw [Bool.and_eq_true] at h;obtain ⟨t,h2⟩:=h
 have I:Q3G m a i g=⟨m.key,m.l++[(a,i,g)],(m.l.length:Int)+1⟩:=by unfold Q3G;rw [if_pos t,if_pos h2]
 unfold QfF at t;rw [Bool.and_eq_true] at t;obtain ⟨d,s⟩:=t;unfold Q8f at h2;rw [Bool.and_eq_true] at h2;obtain ⟨F,r⟩:=h2
 have E:m.l.length < 100:=by simpa using r
 obtain ⟨v,b⟩:=Option.isSome_iff_exists.1 F;have B:=Q0X d;have p:=Qci (Q1X d) s b
 have f:Q0s m.key (m.l++[(a,i,g)]) ((m.l.length:Int)+1)=true:=by
  unfold Q0s;simp only [Bool.and_eq_true,decide_eq_true_eq];refine ⟨⟨⟨⟨B.1, ?_⟩, ?_⟩, ?_⟩,p⟩
  ·rw [List.length_append];simp;omega
  ·omega
  ·rw [List.length_append];simp
 have q:Q0k (m.l++[(a,i,g)]) (m.l.length+1)=v:=by
  have u:Q1n (m.l++[(a,i,g)]) (m.l.length+1)=Q6M (Q1n m.l m.l.length) (a,i,g):=by
   rw [Q3P (by simp),QdY _ (Kaq _)]
   congr 1
   simp
  obtain ⟨H,n⟩:=Option.isSome_iff_exists.1 (Q1X d)
  have x:Q0k m.l m.l.length=H:=by unfold Q0k;rw [n];rfl
  rw [x] at b;unfold Q0k;rw [u,n];unfold Q6M;simp [s,b]
 have w:Q0Q m=⟨m.key,Q0k m.l m.l.length,Q1e m.key (Q1u m.l m.l.length)⟩:=by unfold Q0Q;rw [if_pos d]
 have c:(m.l++[(a,i,g)]).length=m.l.length+1:=by rw [List.length_append];rfl
 have y:Q0Q ⟨m.key,m.l++[(a,i,g)],(m.l.length:Int)+1⟩=⟨m.key,v,(Q37 m.key v::Q1e m.key (Q1u m.l m.l.length)).take 3⟩:=by
  unfold Q0Q;dsimp only;rw [if_pos f,c,q]
  congr 1
  show Q1e m.key (Q1u (m.l++[(a,i,g)]) (m.l.length+1))=_
  have D:Q1u (m.l++[(a,i,g)]) (m.l.length+1)=(Q0k (m.l++[(a,i,g)]) (m.l.length+1)::Q1u (m.l++[(a,i,g)]) m.l.length).take 3:=rfl;rw [D,q,QcO _ (Kaq _)];unfold Q1e;rw [List.map_take,List.map_cons]
 have k:=Q41 d
 have z:Qi5 (Q0Q m) a i g=true:=by
  unfold Qi5;rw [k,s,w];dsimp only;rw [b]
  rfl
 rw [I];refine ⟨d,f,z, ?_, ?_, ?_⟩
 ·rw [y]
  unfold Qab;rw [if_pos (by rw [k,s];rfl),w];dsimp only;rw [b]
 ·dsimp only;rw [c];simp
 ·have G:=Q41 (m:=⟨m.key,m.l++[(a,i,g)],(m.l.length:Int)+1⟩) f
  obtain ⟨_,_,C,_,A⟩:=Q1B G;exact ⟨C,fun j d=> (Q71 (A j d)).1⟩
def Q7J (out:List Int) (x:Int):List Int:=if out.contains x=true then out else out++[x]
def Q2Y (out l:List Int):List Int:=l.foldl Q7J out
def Q3l (R:List (List (List Int))) (b:Nat):List Int:=R.foldl (fun out t=> Q2Y out (t.getD b [])) []
def Qe1 (m:Pm) (b:Int):List Int:=if (Q28 m && decide (0≤b) && decide (b < 8))=true then Q3l m.ring b.toNat else []
theorem QbA (a l:List Int) (k:Nat) (h:k < l.length):Q2Y a (l.take (k+1))=Q7J (Q2Y a (l.take k)) (l.getD k 0):=by
 unfold Q2Y;rw [List.take_succ_eq_append_getElem h,List.foldl_append,List.getD_eq_getElem?_getD,List.getElem?_eq_getElem h]
 rfl
theorem Qd3 (R:List (List (List Int))) (b i:Nat) (h:i < R.length):Q3l (R.take (i+1)) b=Q2Y (Q3l (R.take i) b) ((R.getD i []).getD b []):=by
 unfold Q3l;rw [List.take_succ_eq_append_getElem h,List.foldl_append,List.getD_eq_getElem?_getD (l:=R),List.getElem?_eq_getElem h]
 rfl
theorem Qfn {l:List Int} {k:Nat} {x:Int} (h:k < l.length) (e:l.getD k 0=x):l.contains x=true:=by
 rw [List.contains_iff_mem,←e,List.getD_eq_getElem?_getD,List.getElem?_eq_getElem h];exact List.getElem_mem h
theorem Qhs {l:List Int} {x:Int} (h:∀j,j < l.length→l.getD j 0≠x):l.contains x=false:=by
 rw [Bool.eq_false_iff];intro b;rw [List.contains_iff_mem] at b;obtain ⟨j,a,e⟩:=List.getElem_of_mem b;exact h j a (by rw [List.getD_eq_getElem?_getD,List.getElem?_eq_getElem a];exact e)
theorem QeF {out:List Int} {x:Int} (h:out.contains x=true):Q7J out x=out:=by unfold Q7J;rw [if_pos h]
theorem Qgc {out:List Int} {x:Int} (h:out.contains x=false):Q7J out x=out++[x]:=by unfold Q7J;rw [if_neg (by rw [h];decide)]
theorem Qf7 {l:List Int} {x:Int} {k:Nat} (h:∀j,j < k→l.getD j 0≠x) (h2:l.getD k 0≠x):∀j,j < k+1→l.getD j 0≠x:=fun j hj=> by
 by_cases e:j=k
 ·subst e;exact h2
 ·exact h j (by omega)
theorem Qhz {w:World} {x:Int} {T:TypeId}:RdL Q2w (w.alloc (.cells #[.int .i64 x] T)).heap.size (w.alloc (.cells #[.int .i64 x] T)) (some ⟨w.heap.size,0,none⟩) [x]:=
 .inr ⟨w.heap.size,0,rfl,by simp,fun i hi j a=> by
  have b:i=0:=by simpa using hi
  subst b
  match j,a with
  |0,_=> simp [Q2w]⟩
theorem QiD (o:Option Addr) (c:Nat) (l:List Int) (x:Int) (w:World) (g:RdI w.heap.size w o l) (r:l.length≤1048576):
  Calls Tryz.prog 104 #[.slice o l.length c,.int .i64 x] w fun e p=> e=.returned (.bool (l.contains x))∧p=w:=by
 go_enter Tryz.func104,Tryz.ntmps104;go_wp2
 go_loopw [5] (fun i wr=> ∃k:Nat,k≤l.length∧i=.int .i64 k∧wr=w∧Hid (∀j,j < k→l.getD j 0≠x))
  (fun i _=> l.length - (intOf i).toNat)
 case atStart=> exact ⟨0,Kcq _,rfl,rfl,fun j h=> absurd h (Nat.not_lt_zero _)⟩
 case round=>
  obtain ⟨k,t,rfl,rfl,f⟩:=hrel
  by_cases hlt:k < l.length
  ·rcases g with g|⟨b,off,rfl,s,a⟩
   ·subst g;simp at hlt
   have n:=RdL.int a k hlt;clear a
   have q:(k:Int) < (l.length:Int):=by omega
   by_cases hx:l.getD k 0=x
   ·have d:=Q01 (Qfn hlt hx)
    rw [hx] at n;clear hx f;go_wp2;go_ret;exact ⟨by rw [d.out];rfl,rfl⟩
   ·have d:=Q01 (Qf7 f.out hx)
    obtain ⟨y,m⟩:∃y,l.getD k 0=y:=⟨_,rfl⟩;rw [m] at n hx;clear m f;go_wp2;go_roundw
    case rel=> exact ⟨k+1,by omega,by go_num,by trivial,d.out⟩
    case measure=> simp [intOf];omega
  ·have e:k=l.length:=by omega
   subst e;have d:=Q01 (Qhs f.out);clear f;go_wp2;go_ret;exact ⟨by rw [d.out];rfl,rfl⟩
theorem Qep (o:Option Addr) (c:Nat) (l:List Int) (x:Int) (w:World) (g:RdI w.heap.size w o l) (t:l.length≤1048576):
  Calls Tryz.prog 176 #[.slice o l.length c,.int .i64 x] w fun e q=> ∃r:Int,e=.returned (.int .i64 r)∧decide (0≤r)=l.contains x∧q=w:=by
 go_enter Tryz.func176,Tryz.ntmps176;go_wp2
 go_loopw [8] (fun i wr=> ∃k:Nat,k≤l.length∧i=.int .i64 k∧wr=w∧Hid (∀j,j < k→l.getD j 0≠x))
  (fun i _=> l.length - (intOf i).toNat)
 case atStart=> exact ⟨0,Kcq _,rfl,rfl,fun j h=> absurd h (Nat.not_lt_zero _)⟩
 case round=>
  obtain ⟨k,v,rfl,rfl,f⟩:=hrel
  by_cases hlt:k < l.length
  ·rcases g with g|⟨b,off,rfl,u,a⟩
   ·subst g;simp at hlt
   have n:=RdL.int a k hlt;clear a
   have s:(k:Int) < (l.length:Int):=by omega
   by_cases hx:l.getD k 0=x
   ·have d:=Q01 (Qfn hlt hx)
    rw [hx] at n;clear hx f;go_wp2;go_ret;exact ⟨(k:Int),rfl,by rw [d.out];simp,rfl⟩
   ·have d:=Q01 (Qf7 f.out hx)
    obtain ⟨y,m⟩:∃y,l.getD k 0=y:=⟨_,rfl⟩;rw [m] at n hx
    have p:¬x=y:=fun e=> hx e.symm
    clear m f;go_wp2;go_roundw
    case rel=> exact ⟨k+1,by omega,by go_num,by trivial,d.out⟩
    case measure=> simp [intOf];omega
  ·have e:k=l.length:=by omega
   subst e;have d:=Q01 (Qhs f.out);clear f;go_wp2;go_ret;exact ⟨-1,rfl,by rw [d.out];rfl,rfl⟩
theorem Qau (o:Option Addr) (c:Nat) (l:List Int) (x:Int) (w:World) (d:RdI w.heap.size w o l) (g:l.length≤1048576):
  Calls Tryz.prog 145 #[.slice o l.length c,.int .i64 x] w fun e h=> e=.returned (.bool (l.contains x))∧h=w:=by
 have b:=Q01 (Qep o c l x w d g);clear d;go_enter Tryz.func145,Tryz.ntmps145;go_wp2_with fail;refine b.out.mono ?_;rintro e i ⟨r,rfl,a,rfl⟩;have f:=Q01 a;clear a b;go_wp2;go_ret;exact ⟨by rw [←f.out];rfl,rfl⟩
theorem Q4O {ll:List (List Int)} (h:Q1r ll=true):ll.length=8∧∀b,b < 8→Q0T (ll.getD b [])=true:=by
 unfold Q1r at h;simp only [Bool.and_eq_true,decide_eq_true_eq,List.all_eq_true,List.mem_range] at h;exact ⟨h.1,h.2⟩
structure JInv (k B R C:Nat) (w0 wr:World) (key:Int) (cs:List Cd) (o:Option Addr) (c:Nat):Prop where
 box:wr.heap[B]? =some (.cells #[.int .i64 key,.slice o cs.length c,.int .i64 0] 25 (0,0))
 res:wr.heap[R]? =some (.cells #[.int .i64 0,.slice none 0 0,.int .i64 0] 25 (0,0))
 own:Qcu wr C (.slice o cs.length c) cs
 dr:Dr k w0 wr
theorem JInv.draw {k B R C:Nat} {a wr x:World} {key:Int} {cs:List Cd} {o:Option Addr} {c:Nat} (h:JInv k B R C a wr key cs o c) (d:isCur k x) (b:wr.grownBy x (some k)) (j:k < a.heap.size) (i:a.heap.size≤R) (f:R < B) (g:B < C):JInv k B R C a x key cs o c:=
 ⟨Q09 b (Array.getElem?_eq_some_iff.1 h.box).1 (by omega) h.box,Q09 b (Array.getElem?_eq_some_iff.1 h.res).1 (by omega) h.res,Q3E h.own b (by omega),h.dr.step d b⟩
theorem JInv.below {k B R C:Nat} {b wr x:World} {key:Int} {cs:List Cd} {o:Option Addr} {c:Nat} (h:JInv k B R C b wr key cs o c) (a:Below wr.heap.size wr x) (d:k < b.heap.size):JInv k B R C b x key cs o c:=
 ⟨(a.block _ (Array.getElem?_eq_some_iff.1 h.box).1).trans h.box,(a.block _ (Array.getElem?_eq_some_iff.1 h.res).1).trans h.res,Q03 h.own a,h.dr.below d (a.mono h.dr.gr.size)⟩
theorem Qey (key:Int) (o:Option Addr) (cap:Nat) (l:List Bk) (f:Option Addr) (h:Nat) (a:List Hd) (k i g:Int) (w:World) (z:Q1P key=true) (t:Q0e l=true) (A:Q0J k i g=true) (b:l.length≤100) (s:RdK w.heap.size w o l) (x:RdL Q0H w.heap.size w f a) (q:f=none→h=0) (j:a.length≤3):
  Calls Tryz.prog 95 #[plv key (.slice o l.length cap) (.slice f a.length h),cmd k i g] w fun e p=> ∃r u c2 c v d,e=.returned (.tuple #[plv key (.slice r u c2) (.slice c v d),.bool (doL l k i g).isSome])∧Below w.heap.size w p:=by
 cases hm:doL l k i g with
 |none=>
  refine (QfR key o cap l f a.length h k i g w t hm b s).mono ?_;rintro e p ⟨rfl,n⟩;exact ⟨_,_,_,_,_,_,rfl,n⟩
 |some m=>
  refine (Q98 key o cap l f h a k i g m w z t A hm b s x q j).mono ?_;rintro e p ⟨r,c2,c,u,d,B,C,y,rfl,_,_,_,_,_,n⟩;exact ⟨_,_,_,_,_,_,rfl,n⟩
theorem Qhc (key:Int) (o:Option Addr) (cap:Nat) (cs:List Cd) (l:List Bk) (n:Nat) (j:n=cs.length) (w:World) (hs:Q0k cs cs.length=l) (p:RdC w.heap.size w o cs) (q:Q1P key=true) (k:cs.length≤100) (c:(Q1n cs cs.length).isSome=true):
  Calls Tryz.prog 43 #[.int .i64 key,.slice o n cap] w fun e b=> ∃f h d g a,e=.returned (plv key (.slice f l.length h) (.slice d a.length g))∧RdK b.heap.size b f l∧RdL Q0H b.heap.size b d a∧(d=none→g=0)∧a.length≤3∧Below w.heap.size w b:=by
 subst hs j;refine (Q6B key o cap cs w p q k c).mono ?_;rintro e b ⟨f,h,d,g,a,rfl,r,h2,_,i,m⟩;exact ⟨f,h,d,g,a,rfl,ownL.rds (L:=Q1d) r,ownL.rds (L:=Q0H) h2,Qjn h2,i,m⟩
theorem Qjl {a W:World} {B:Nat} {x y z f:Value} (c:Below a.heap.size a W) (b:a.heap.size≤B):∃B',Value.pointer (some ⟨B,0,none⟩)=.pointer (some ⟨B',0,none⟩)∧f=f∧Hid (Below a.heap.size a (setP W B x y z)):=⟨B,rfl,rfl,Q0E c b _ _ _⟩
theorem Qjd {a W:World} {x y z f:Value} {T:TypeId} (b:Below a.heap.size a W):∃B',Value.pointer (some ⟨W.heap.size,0,none⟩)=.pointer (some ⟨B',0,none⟩)∧f=f∧Hid (Below a.heap.size a (W.alloc (.cells #[x,y,z] T))):=⟨_,rfl,rfl,b.alloc b.size _⟩
theorem QgS {w a:World} {c:Array Value} {T:TypeId} (b:Below (w.alloc (.cells c T)).heap.size (w.alloc (.cells c T)) a):a.heap[w.heap.size]? =some (.cells c T (0,0)):=
 (b.block w.heap.size (by simp)).trans (World.alloc_heap_new w (.cells c T))
theorem QeJ {w a:World} {c:Array Value} {T:TypeId} (b:Below (w.alloc (.cells c T)).drew.heap.size (w.alloc (.cells c T)).drew a):a.heap[w.heap.size]? =some (.cells c T (0,0)):=
 (b.block w.heap.size (by simp)).trans (World.alloc_heap_new w (.cells c T))
theorem Q7K (k:Nat) (w:World) (hc:isCur k w) (hk:k < w.heap.size):
  Calls Tryz.prog 133 #[.pointer (some ⟨k,0,none⟩)] w fun e w'=> ∃v m,e=.returned v∧InJm w.heap.size w'.heap.size w' v m∧Q0s m.key m.l m.safe=true∧m.l.length≤10∧Dr k w w':=by
 obtain ⟨W0,aD⟩:∃W,w.alloc (.cells #[.int .i64 0,.slice none 0 0,.int .i64 0] 25)=W:=⟨_,rfl⟩;have bk:=alb0v0v1 aD;have aU:=Q01 (show Dr k w W0 from ⟨hc.below (bk.mono hk),by rw [←aD];exact Q0t w _ k⟩);have a3:Hid _:=alx0v0v1 aD;have ak:=alz0v0v1 aD;clear bk hc;go_enter Tryz.func133,Tryz.ntmps133;go_wp2_with fail;refine (Q0p k 50 W0 aU.out.cur (by decide) (by decide)).mono ?_;rintro e M ⟨key,rfl,bJ,bB,a9,aC⟩;have bg:=Q01 (aU.out.step a9 aC);have bf:=Q01 (Q09 aC ak (by omega) a3.out);have y:w.heap.size < M.heap.size:=Kbq ak aC.size
 have Z:=Q01 (show Q1P key=true by unfold Q1P;simp;omega);clear a9 aC a3 aU ak;have aa:Below M.heap.size M (M.alloc (.cells #[.int .i64 key,.slice none 0 0,.int .i64 0] 25)):=(Below.refl _ _).alloc (Kaq _) _;have O:Hid ((M.alloc (.cells #[.int .i64 key,.slice none 0 0,.int .i64 0] 25)).heap[M.heap.size]? =some (.cells #[.int .i64 key,.slice none 0 0,.int .i64 0] 25 (0,0))):=World.alloc_heap_new M _;have bc:=Q01 ((aa.block _ y).trans bf.out);have aZ:=Q01 (bg.out.below hk (aa.mono (Nat.le_of_lt y)))
 have bp:M.heap.size < ((M.alloc (.cells #[.int .i64 key,.slice none 0 0,.int .i64 0] 25))).heap.size:=by simp
 have a5:Hid (Qcu (M.alloc (.cells #[.int .i64 key,.slice none 0 0,.int .i64 0] 25)) (M.heap.size+1) (.slice none 0 0) []):=World.ownsRow_nil _ _ _ _
 have bo:Hid (((M.alloc (.cells #[.int .i64 key,.slice none 0 0,.int .i64 0] 25))).heap.size=M.heap.size+1):=by unfold Hid;simp
 clear aa bf bg;go_wp2_with fail;generalize (M.alloc (.cells #[.int .i64 key,.slice none 0 0,.int .i64 0] 25))=W2 at *;refine (Q0p k 10 W2 aZ.out.cur (by decide) (by decide)).mono ?_;rintro e w3 ⟨n',rfl,bv,bA,a4,a7⟩;obtain ⟨n,rfl⟩:=Int.eq_ofNat_of_zero_le bv;have aX:=Q01 (JInv.draw (C:=M.heap.size+1) (⟨O.out,bc.out,a5.out,aZ.out⟩:JInv k M.heap.size w.heap.size (M.heap.size+1) w W2 key [] none 0) a4 a7 hk (Kaq _) y (Nat.lt_succ_self _));clear a4 a7 O bc a5 aZ bp bo;obtain ⟨B,hB⟩:∃B,M.heap.size=B:=⟨_,rfl⟩;simp only [hB] at aX y ⊢;clear hB;go_wp2
 go_loopw [5] (fun iv wr=> ∃(i:Nat) (cs:List Cd) (I:Option Addr) (H:Nat),i≤n∧iv=.int .i64 (i:Int)∧Hid (JInv k B w.heap.size (B+1) w wr key cs I H)∧cs.length≤i∧Hid ((Q1n cs cs.length).isSome=true))
  (fun iv _=> n - (intOf iv).toNat)
 case atStart=> exact ⟨0,[],none,0,Kcq _,rfl,aX.out,Kaq _,rfl⟩
 case round=>
  rename World=> wr
  obtain ⟨i,cs,I,H,bO,rfl,HJ,bG,P⟩:=hrel;clear aX;have bi:=Q01 (HJ.out.dr.lt hk)
  by_cases hlt:i < n
  ·have bD:(i:Int) < (n:Int):=by omega
   go_wp2_with fail;refine (Q81 k wr HJ.out.dr.cur bi.out).mono ?_;rintro e r ⟨a,J,g,rfl,ba,hd⟩;have bb:=Q01 ba;have aS:=Q01 (HJ.out.draw hd.cur hd.gr hk (Kaq _) y (Nat.lt_succ_self _));clear ba hd HJ bi;have bN:B < r.heap.size:=(Array.getElem?_eq_some_iff.1 aS.out.box).1;have aa:Below r.heap.size r (r.alloc (.cells #[.int .i64 a,.int .i64 J,.int .i64 g] 77)):=(Below.refl _ _).alloc (Kaq _) _
   have O:Hid ((r.alloc (.cells #[.int .i64 a,.int .i64 J,.int .i64 g] 77)).heap[r.heap.size]? =some (.cells #[.int .i64 a,.int .i64 J,.int .i64 g] 77 (0,0))):=World.alloc_heap_new r _;have au:=Q01 (aS.out.below aa hk)
   have A:r.heap.size < ((r.alloc (.cells #[.int .i64 a,.int .i64 J,.int .i64 g] 77))).heap.size:=by simp
   clear aa aS;obtain ⟨l,hl⟩:∃l,Q0k cs cs.length=l:=⟨_,rfl⟩;have HL:=Q01 hl
   have bl:=Q01 (show Q0e l=true∧l.length≤100 by
    have h:=Q4r (key:=key) (cs:=cs) (safe:=0) (by unfold Q0s;simp only [Bool.and_eq_true,decide_eq_true_eq];exact ⟨⟨⟨⟨Z.out,by omega⟩,by omega⟩,by omega⟩,P.out⟩);rw [hl] at h
    exact h)
   obtain ⟨m,hm⟩:∃m,m=cs.length:=⟨_,rfl⟩;have HM:=Q01 hm
   have aW:Hid ((r.alloc (.cells #[.int .i64 a,.int .i64 J,.int .i64 g] 77)).heap[B]? =some (.cells #[.int .i64 key,.slice I m H,.int .i64 0] 25 (0,0))):=by unfold Hid;rw [hm];exact au.out.box
   have ac:=Q01 (fun W (F:Below ((r.alloc (.cells #[.int .i64 a,.int .i64 J,.int .i64 g] 77))).heap.size (r.alloc (.cells #[.int .i64 a,.int .i64 J,.int .i64 g] 77)) W)=> Qhc key I H cs l m hm W hl (((ownL.rds (L:=Q4j) au.out.own).kept F (Kaq _)).le F.size) Z.out (by omega) P.out);have ap:=Q01 (fun o1 c1 ah ad y W rk rr cr af=> Qey key o1 c1 l ah ad y a J g W Z.out bl.out.1 bb.out bl.out.2 rk rr cr af)
   have bw:m≤i:=by omega
   clear hl hm;obtain ⟨t,ht⟩:∃t,(doL l a J g).isSome=t:=⟨_,rfl⟩;rw [ht] at ap;have HT:=Q01 ht;clear ht;go_upto_region 7 with fail;generalize (r.alloc (.cells #[.int .i64 a,.int .i64 J,.int .i64 g] 77))=X2 at *
   have N:B < X2.heap.size:=by omega
   have z0:X2.cell? ⟨B,0,none⟩=some (.int .i64 key):=Q00 aW.out 0 _ rfl;have z1:X2.cell? ⟨B,1,none⟩=some (.slice I m H):=Q00 aW.out 1 _ rfl;have u0:X2.cell? ⟨r.heap.size,0,none⟩=some (.int .i64 a):=Q00 O.out 0 _ rfl;have u1:X2.cell? ⟨r.heap.size,1,none⟩=some (.int .i64 J):=Q00 O.out 1 _ rfl;have u2:X2.cell? ⟨r.heap.size,2,none⟩=some (.int .i64 g):=Q00 O.out 2 _ rfl
   go_cut [7,8] from 21 to 30 (fun s7 s8 wx=> ∃B',s7=.pointer (some ⟨B',0,none⟩)∧s8=.bool t∧Hid (Below X2.heap.size X2 wx))
   case first=>
    go_region_held3 (fun w'=> w'.cell? ⟨B,0,none⟩=some (.int .i64 key)∧w'.cell? ⟨B,1,none⟩=some (.slice I m H)∧w'.cell? ⟨r.heap.size,0,none⟩=some (.int .i64 a)∧w'.cell? ⟨r.heap.size,1,none⟩=some (.int .i64 J)∧w'.cell? ⟨r.heap.size,2,none⟩=some (.int .i64 g)) (first|with_reducible exact ⟨T,U,Y,V,X⟩|with_reducible exact ⟨aN,aO,aK,aL,aM⟩|with_reducible exact ⟨z0,z1,u0,u1,u2⟩|with_reducible exact ⟨Q0a T (show B < X2.heap.size by omega),Q0a U (show B < X2.heap.size by omega),Q0a Y (show r.heap.size < X2.heap.size by omega),Q0a V (show r.heap.size < X2.heap.size by omega),Q0a X (show r.heap.size < X2.heap.size by omega)⟩|with_reducible exact ⟨Q0a T (show B < b.heap.size by omega),Q0a U (show B < b.heap.size by omega),Q0a Y (show r.heap.size < b.heap.size by omega),Q0a V (show r.heap.size < b.heap.size by omega),Q0a X (show r.heap.size < b.heap.size by omega)⟩|go_keep) (first|(go_at_call 43;have E:=ac.out X2.drew (Below.drew (Below.refl _ _));with_reducible refine E.mono ?_;clear E;rintro e b ⟨o1,c1,ah,ad,y,rfl,aY,aT,a0,af,F⟩;have ai:Below X2.heap.size X2 b:=Below.trans (show Below X2.heap.size X2 X2.drew from (Below.drew (Below.refl _ _))) (F.mono (by simp));have bn:X2.heap.size≤b.heap.size:=ai.size;have x:Below X2.heap.size X2 b:=ai;have aN:=(x.cell (p:=⟨B,0,none⟩) N).trans z0;have aO:=(x.cell (p:=⟨B,1,none⟩) N).trans z1;have aK:=(x.cell (p:=⟨r.heap.size,0,none⟩) A).trans u0;have aL:=(x.cell (p:=⟨r.heap.size,1,none⟩) A).trans u1;have aM:=(x.cell (p:=⟨r.heap.size,2,none⟩) A).trans u2;(try have ao:=(Array.getElem?_eq_some_iff.1 D).1);clear F)|(go_at_call 43;have E:=ac.out (X2.alloc (.cells #[.int .i64 0,.slice none 0 0,.slice none 0 0] 29)).drew (Below.drew ((Below.refl _ _).alloc (Kaq _) _));with_reducible refine E.mono ?_;clear E;rintro e b ⟨o1,c1,ah,ad,y,rfl,aY,aT,a0,af,F⟩;have ai:Below X2.heap.size X2 b:=Below.trans (show Below X2.heap.size X2 (X2.alloc (.cells #[.int .i64 0,.slice none 0 0,.slice none 0 0] 29)).drew from (Below.drew ((Below.refl _ _).alloc (Kaq _) _))) (F.mono (by simp));have bn:X2.heap.size≤b.heap.size:=ai.size;have x:Below X2.heap.size X2 b:=ai;have aN:=(x.cell (p:=⟨B,0,none⟩) N).trans z0;have aO:=(x.cell (p:=⟨B,1,none⟩) N).trans z1;have aK:=(x.cell (p:=⟨r.heap.size,0,none⟩) A).trans u0;have aL:=(x.cell (p:=⟨r.heap.size,1,none⟩) A).trans u1;have aM:=(x.cell (p:=⟨r.heap.size,2,none⟩) A).trans u2;have D:b.heap[X2.heap.size]? =some (.cells #[.int .i64 0,.slice none 0 0,.slice none 0 0] 29 (0,0)):=(QeJ F);(try have ao:=(Array.getElem?_eq_some_iff.1 D).1);clear F)|(go_at_call 95;have E:=ap.out o1 c1 ah ad y b aY aT a0 af;with_reducible refine E.mono ?_;clear E;rintro e f ⟨o2,n2,c2,bt,n3,bu,rfl,F⟩;have R:Below b.heap.size b f:=F;have bx:b.heap.size≤f.heap.size:=R.size;have z:Below X2.heap.size X2 f:=x.trans (R.mono x.size);have T:=(z.cell (p:=⟨B,0,none⟩) N).trans z0;have U:=(z.cell (p:=⟨B,1,none⟩) N).trans z1;have Y:=(z.cell (p:=⟨r.heap.size,0,none⟩) A).trans u0;have V:=(z.cell (p:=⟨r.heap.size,1,none⟩) A).trans u1;have X:=(z.cell (p:=⟨r.heap.size,2,none⟩) A).trans u2;(try have c:f.heap[X2.heap.size]? =some (.cells #[.int .i64 0,.slice none 0 0,.slice none 0 0] 29 (0,0)):=(R.block _ (Array.getElem?_eq_some_iff.1 D).1).trans D);(try have av:=(Array.getElem?_eq_some_iff.1 c).1);(try have aE:=(Array.getElem?_eq_some_iff.1 d).1);(try have aI:f.cell? ⟨X2.heap.size,0,none⟩=some (.int .i64 0):=Q00 c 0 _ rfl);(try have ay:=Q02 c 0);(try have aq:f.cell? ⟨X2.heap.size,1,none⟩=some (.slice none 0 0):=Q00 c 1 _ rfl);(try have ax:=Q02 c 1);(try have ar:f.cell? ⟨X2.heap.size,2,none⟩=some (.slice none 0 0):=Q00 c 2 _ rfl);(try have al:=Q02 c 2);(try have aA:f.cell? ⟨b.heap.size,0,none⟩=some (.int .i64 0):=Q00 d 0 _ rfl);(try have aG:=Q02 d 0);(try have aF:f.cell? ⟨b.heap.size,1,none⟩=some (.slice none 0 0):=Q00 d 1 _ rfl);(try have aJ:=Q02 d 1);(try have an:f.cell? ⟨b.heap.size,2,none⟩=some (.slice none 0 0):=Q00 d 2 _ rfl);(try have aB:=Q02 d 2);clear F)|(go_at_call 95;have E:=ap.out o1 c1 ah ad y (b.alloc (.cells #[.int .i64 0,.slice none 0 0,.slice none 0 0] 29)) ((aY.kept ((Below.refl _ _).alloc (Kaq _) _) (Kaq _)).le (by simp)) ((aT.kept ((Below.refl _ _).alloc (Kaq _) _) (Kaq _)).le (by simp)) a0 af;with_reducible refine E.mono ?_;clear E;rintro e f ⟨o2,n2,c2,bt,n3,bu,rfl,F⟩;have R:Below b.heap.size b f:=Below.trans (show Below b.heap.size b (b.alloc (.cells #[.int .i64 0,.slice none 0 0,.slice none 0 0] 29)) from ((Below.refl _ _).alloc (Kaq _) _)) (F.mono (by simp));have bx:b.heap.size≤f.heap.size:=R.size;have z:Below X2.heap.size X2 f:=x.trans (R.mono x.size);have T:=(z.cell (p:=⟨B,0,none⟩) N).trans z0;have U:=(z.cell (p:=⟨B,1,none⟩) N).trans z1;have Y:=(z.cell (p:=⟨r.heap.size,0,none⟩) A).trans u0;have V:=(z.cell (p:=⟨r.heap.size,1,none⟩) A).trans u1;have X:=(z.cell (p:=⟨r.heap.size,2,none⟩) A).trans u2;(try have c:f.heap[X2.heap.size]? =some (.cells #[.int .i64 0,.slice none 0 0,.slice none 0 0] 29 (0,0)):=(R.block _ (Array.getElem?_eq_some_iff.1 D).1).trans D);have d:f.heap[b.heap.size]? =some (.cells #[.int .i64 0,.slice none 0 0,.slice none 0 0] 29 (0,0)):=(QgS F);(try have av:=(Array.getElem?_eq_some_iff.1 c).1);(try have aE:=(Array.getElem?_eq_some_iff.1 d).1);(try have aI:f.cell? ⟨X2.heap.size,0,none⟩=some (.int .i64 0):=Q00 c 0 _ rfl);(try have ay:=Q02 c 0);(try have aq:f.cell? ⟨X2.heap.size,1,none⟩=some (.slice none 0 0):=Q00 c 1 _ rfl);(try have ax:=Q02 c 1);(try have ar:f.cell? ⟨X2.heap.size,2,none⟩=some (.slice none 0 0):=Q00 c 2 _ rfl);(try have al:=Q02 c 2);(try have aA:f.cell? ⟨b.heap.size,0,none⟩=some (.int .i64 0):=Q00 d 0 _ rfl);(try have aG:=Q02 d 0);(try have aF:f.cell? ⟨b.heap.size,1,none⟩=some (.slice none 0 0):=Q00 d 1 _ rfl);(try have aJ:=Q02 d 1);(try have an:f.cell? ⟨b.heap.size,2,none⟩=some (.slice none 0 0):=Q00 d 2 _ rfl);(try have aB:=Q02 d 2);clear F))
    all_goals (go_wp2_with fail;go_meet)
    all_goals first
     |with_reducible exact Qjl z (show _≤X2.heap.size by omega)
     |with_reducible exact Qjl z (show _≤b.heap.size by omega)
     |with_reducible exact Qjd z
   case rest=>
    obtain ⟨B9,rfl,rfl,a1⟩:=hcut;have F:=a1.out;have bH:=F.size;have aR:=Q01 ((F.block _ A).trans O.out);have ae:=Q01 (au.out.below F hk);clear F a1 O au aW z0 z1 u0 u1 u2 ac ap
    cases t with
    |false=>
     go_wp2;go_roundw
     case rel=> exact ⟨i+1,cs,I,H,by omega,by go_num,ae.out,by omega,P.out⟩
     case measure=> simp [intOf];omega
    |true=>
     obtain ⟨mm,bd⟩:=Option.isSome_iff_exists.1 HT.out;have aV:=Q01 (Qci P.out bb.out (by rw [HL.out];exact bd));clear bd
     have aj:Hid (wc.heap[B]? =some (.cells #[.int .i64 key,.slice I m H,.int .i64 0] 25 (0,0))):=by unfold Hid;rw [HM.out];exact ae.out.box
     have y1:wc.cell? ⟨B,1,none⟩=some (.slice I m H):=Q00 aj.out 1 _ rfl;have v0:wc.cell? ⟨r.heap.size,0,none⟩=some (.int .i64 a):=Q00 aR.out 0 _ rfl;have v1:wc.cell? ⟨r.heap.size,1,none⟩=some (.int .i64 J):=Q00 aR.out 1 _ rfl;have v2:wc.cell? ⟨r.heap.size,2,none⟩=some (.int .i64 g):=Q00 aR.out 2 _ rfl
     have aP:Hid (Qcu wc (B+1) (.slice I m H) cs):=by unfold Hid;rw [HM.out];exact ae.out.own
     have HA:=Q01 (World.ownsRow.alloc aP.out (.cells #[.int .i64 a,.int .i64 J,.int .i64 g] 77))
     have bs:B < wc.heap.size:=by omega
     go_wp2_with (first|(at_builtin;refine Q08 Qdk rfl (.tmp 33) (.tmp 35) rfl (B+1) _ cs rfl HA.out (some ⟨wc.heap.size,0,none⟩) 1 _ [(a,J,g)] 1 rfl rfl (by simp) Q9u (by simp;omega) (by simp;omega) ?_));intro v8 w8 aQ am _;obtain ⟨o8,c8,e8,_⟩:=ownL.open (L:=Q4j) aQ;subst e8
     have bj:Hid (∀q,q≤B→¬(some q=(Value.slice I m H).ownBlock)):=fun q hq e=> by have:=(aP.out.lt q e.symm).1;omega
     have az:Below wc.heap.size wc (wc.alloc (.cells #[.int .i64 a,.int .i64 J,.int .i64 g] 77)):=(Below.refl _ _).alloc (Kaq _) _;have ag:=(am.block B (by simp;omega) (bj.out B (Kaq _))).trans ((az.block B bs).trans aj.out);have a8:=(am.block w.heap.size (by simp;omega) (bj.out _ (by omega))).trans ((az.block w.heap.size (by omega)).trans ae.out.res);have be:Below w.heap.size wc w8:=(az.mono (by omega)).grown am (by simp;omega) (fun q h=> by have:=(aP.out.lt q h).1;omega);have a6:=Q01 (ae.out.dr.below hk be)
     have p8:w8.cell? ⟨B,1,none⟩=some (.slice I m H):=Q00 ag 1 _ rfl;have f8:w8.frozen? ⟨B,1,none⟩=false:=Q02 ag 1;have bm:=Q01 (show JInv k B w.heap.size (B+1) w (w8.setCell ⟨B,1,none⟩ (.slice o8 (cs++[(a,J,g)]).length c8)) key (cs++[(a,J,g)]) o8 c8 from ⟨Q06 ag 1 _,Q29 a8 (by omega),Q1O aQ ag 1 _,a6.out.below hk ((Below.refl _ _).setCell (p:=⟨B,1,none⟩) (by exact Nat.le_of_lt y) _)⟩);clear am aQ ag a8 be az a6 y1 v0 v1 v2;go_wp2;go_roundw
     case rel=> exact ⟨i+1,cs++[(a,J,g)],o8,c8,by omega,by go_num,by have h:=bm.out;rw [List.length_append] at h;exact h,by simp;omega,aV.out⟩
     case measure=> simp [intOf];omega
  ·have e:i=n:=by omega
   subst e
   have hn:i≤10:=by omega
   obtain ⟨m,hm⟩:∃m,m=cs.length:=⟨_,rfl⟩;have HM:=Q01 hm
   have aj:Hid (wr.heap[B]? =some (.cells #[.int .i64 key,.slice I m H,.int .i64 0] 25 (0,0))):=by unfold Hid;rw [hm];exact HJ.out.box
   have z1:wr.cell? ⟨B,1,none⟩=some (.slice I m H):=Q00 aj.out 1 _ rfl
   have bw:m≤i:=by omega
   clear hm;go_wp2_with fail;refine (Q0p k ((m:Int)+1) wr HJ.out.dr.cur (by omega) (by omega)).mono ?_;rintro e w5 ⟨s,rfl,ak,bE,a2,bh⟩;have aH:=Q01 (HJ.out.draw a2 bh hk (Kaq _) y (Nat.lt_succ_self _))
   have ab:w5.heap[B]? =some (.cells #[.int .i64 key,.slice I m H,.int .i64 0] 25 (0,0)):=by rw [HM.out];exact aH.out.box
   have aw:=Q06 ab 2 (.int .i64 s);have G:=Q29 (j:=2) (u:=.int .i64 s) aH.out.res (show w.heap.size≠B by omega);have bq:=Q01 (Q1O (Q1O (Q1O (Q1O (show Qcu w5 (B+1) (.slice I m H) cs by rw [HM.out];exact aH.out.own) ab 2 (.int .i64 s)) G 0 (.int .i64 key)) (Q06 G 0 (.int .i64 key)) 1 (.slice I m H)) (Q06 (Q06 G 0 (.int .i64 key)) 1 (.slice I m H)) 2 (.int .i64 s));have y2:w5.cell? ⟨B,2,none⟩=some (.int .i64 0):=Q00 ab 2 _ rfl;have bL:w5.frozen? ⟨B,2,none⟩=false:=Q02 ab 2;have v0:(w5.setCell ⟨B,2,none⟩ (.int .i64 s)).cell? ⟨B,0,none⟩=some (.int .i64 key):=Q00 aw 0 _ rfl
   have v1:(w5.setCell ⟨B,2,none⟩ (.int .i64 s)).cell? ⟨B,1,none⟩=some (.slice I m H):=Q00 aw 1 _ rfl;have v2:(w5.setCell ⟨B,2,none⟩ (.int .i64 s)).cell? ⟨B,2,none⟩=some (.int .i64 s):=Q00 aw 2 _ rfl;have r0:(w5.setCell ⟨B,2,none⟩ (.int .i64 s)).cell? ⟨w.heap.size,0,none⟩=some (.int .i64 0):=Q00 G 0 _ rfl;have bK:(w5.setCell ⟨B,2,none⟩ (.int .i64 s)).frozen? ⟨w.heap.size,0,none⟩=false:=Q02 G 0;have r1:(w5.setCell ⟨B,2,none⟩ (.int .i64 s)).cell? ⟨w.heap.size,1,none⟩=some (.slice none 0 0):=Q00 G 1 _ rfl
   have bI:(w5.setCell ⟨B,2,none⟩ (.int .i64 s)).frozen? ⟨w.heap.size,1,none⟩=false:=Q02 G 1;have r2:(w5.setCell ⟨B,2,none⟩ (.int .i64 s)).cell? ⟨w.heap.size,2,none⟩=some (.int .i64 0):=Q00 G 2 _ rfl;have bM:(w5.setCell ⟨B,2,none⟩ (.int .i64 s)).frozen? ⟨w.heap.size,2,none⟩=false:=Q02 G 2;have bz:=Q01 (show Q0s key cs s=true by unfold Q0s;simp only [Bool.and_eq_true,decide_eq_true_eq];exact ⟨⟨⟨⟨Z.out,by omega⟩,ak⟩,by have:=HM.out;omega⟩,P.out⟩);clear a2 bh HJ aj ab aw G z1;go_wp2
   refine bodyPost_ret (v:=jrn key (.slice I m H) s) (by simp [results,Tryz.results133,go_sem,r0,r1,r2]) rfl ⟨_,⟨key,cs,s⟩,rfl,⟨_,rfl,InRow.mono (InRow.of bq.out) (by omega) (Kaq _)⟩,bz.out,show cs.length≤10 by omega,aH.out.dr.below hk ?_⟩;exact Q0E ((Below.refl _ _).setCell (p:=⟨B,2,none⟩) (Nat.le_of_lt y) _) (Kaq _) _ _ _
structure JS (k B R C:Nat) (w0 wr:World) (key s:Int) (cs:List Cd) (o:Option Addr) (n c:Nat):Prop where
 len:n=cs.length
 box:wr.heap[B]? =some (.cells #[.int .i64 key,.slice o n c,.int .i64 s] 25 (0,0))
 res:wr.heap[R]? =some (.cells #[.int .i64 0,.slice none 0 0,.int .i64 0] 25 (0,0))
 own:Qcu wr C (.slice o n c) cs
 dr:Dr k w0 wr
theorem JS.draw {k B R C:Nat} {b wr:World} {key s:Int} {cs:List Cd} {o:Option Addr} {n c:Nat} {x:World} (h:JS k B R C b wr key s cs o n c) (i:isCur k x) (a:wr.grownBy x (some k)) (d:B≠k) (g:R≠k) (f:k < C):JS k B R C b x key s cs o n c:=
 ⟨h.len,Q09 a (Array.getElem?_eq_some_iff.1 h.box).1 d h.box,Q09 a (Array.getElem?_eq_some_iff.1 h.res).1 g h.res,Q3E h.own a f,h.dr.step i a⟩
theorem JS.below {k B R C:Nat} {b wr:World} {key s:Int} {cs:List Cd} {o:Option Addr} {n c:Nat} {x:World} (h:JS k B R C b wr key s cs o n c) (a:Below wr.heap.size wr x) (d:k < b.heap.size):JS k B R C b x key s cs o n c:=
 ⟨h.len,(a.block _ (Array.getElem?_eq_some_iff.1 h.box).1).trans h.box,(a.block _ (Array.getElem?_eq_some_iff.1 h.res).1).trans h.res,Q03 h.own a,h.dr.below d (a.mono h.dr.gr.size)⟩
theorem JS.set0 {k B R C:Nat} {a wr:World} {key s:Int} {cs:List Cd} {o:Option Addr} {n c:Nat} (h:JS k B R C a wr key s cs o n c) (f:k < a.heap.size) (b:a.heap.size≤B) (d:R≠B) (y:Int):JS k B R C a (wr.setCell ⟨B,0,none⟩ (.int .i64 y)) y s cs o n c:=
 ⟨h.len,Q06 h.box 0 _,Q29 h.res d,Q1O h.own h.box 0 _,h.dr.below f ((Below.refl _ _).setCell (p:=⟨B,0,none⟩) b _)⟩
theorem JS.set2 {k B R C:Nat} {a wr:World} {key s:Int} {cs:List Cd} {o:Option Addr} {n c:Nat} (h:JS k B R C a wr key s cs o n c) (f:k < a.heap.size) (b:a.heap.size≤B) (d:R≠B) (y:Int):JS k B R C a (wr.setCell ⟨B,2,none⟩ (.int .i64 y)) key y cs o n c:=
 ⟨h.len,Q06 h.box 2 _,Q29 h.res d,Q1O h.own h.box 2 _,h.dr.below f ((Below.refl _ _).setCell (p:=⟨B,2,none⟩) b _)⟩
theorem JS.done {k B C:Nat} {a wr:World} {key s:Int} {cs:List Cd} {o:Option Addr} {n c:Nat} (h:JS k B a.heap.size C a wr key s cs o n c) (g:k < a.heap.size) (f:a.heap.size≤C):InJm a.heap.size (setP wr a.heap.size (.int .i64 key) (.slice o n c) (.int .i64 s)).heap.size (setP wr a.heap.size (.int .i64 key) (.slice o n c) (.int .i64 s)) (jrn key (.slice o n c) s) ⟨key,cs,s⟩∧Dr k a (setP wr a.heap.size (.int .i64 key) (.slice o n c) (.int .i64 s)):=by
 have b:=Q06 h.res 0 (.int .i64 key);have i:=Q06 b 1 (.slice o n c);have d:=Q1O (Q1O (Q1O h.own h.res 0 (.int .i64 key)) b 1 (.slice o n c)) i 2 (.int .i64 s);exact ⟨⟨_,rfl,InRow.mono (InRow.of d) f (Kaq _)⟩,h.dr.below g (Q0E (Below.refl _ _) (Kaq _) _ _ _)⟩
theorem JS.push {k B R C:Nat} {d wr:World} {key s:Int} {cs:List Cd} {o:Option Addr} {n c:Nat} {f:World} {a i g:Int} {x:Option Addr} {j t:Nat} {O:Obj} (h:JS k B R C d wr key s cs o n c) (D:k < d.heap.size) (H:d.heap.size≤B) (I:R≠B) (L:d.heap.size≤C) (F:R < C) (E:j=n+1) (J:Qcu f C (.slice x j t) (cs++[(a,i,g)])) (v:(wr.alloc O).grownBy f (Value.slice o n c).ownBlock):
  f.heap[B]? =some (.cells #[.int .i64 key,.slice o n c,.int .i64 s] 25 (0,0))∧JS k B R C d (f.setCell ⟨B,1,none⟩ (.slice x j t)) key s (cs++[(a,i,g)]) x j t:=by
 have l:Below wr.heap.size wr (wr.alloc O):=(Below.refl _ _).alloc (Kaq _) _;have y:=(Array.getElem?_eq_some_iff.1 h.box).1;have m:=(Array.getElem?_eq_some_iff.1 h.res).1;have G:=l.size
 have w:¬(some B=(Value.slice o n c).ownBlock):=fun e=> by
  rcases Q1Y h.own h.box (show (77:TypeId)≠25 by decide) with A|A
  ·rw [A] at e;cases e
  ·exact A e.symm
 have z:¬(some R=(Value.slice o n c).ownBlock):=fun e=> by have:=(h.own.lt R e.symm).1;omega
 have b:=(v.block B (by omega) w).trans ((l.block B y).trans h.box);have r:=(v.block R (by omega) z).trans ((l.block R m).trans h.res);have u:Below d.heap.size wr f:=(l.mono h.dr.gr.size).grown v (by have:=h.dr.gr.size;omega) (fun q e=> by have:=(h.own.lt q e).1;omega);exact ⟨b,⟨by simp [E,h.len],Q06 b 1 _,Q29 r I,Q1O J b 1 _,(h.dr.below D u).below D ((Below.refl _ _).setCell (p:=⟨B,1,none⟩) H _)⟩⟩
theorem Qb9 (k:Nat) (w:World) (hc:isCur k w) (q:k < w.heap.size):
  Calls Tryz.prog 81 #[.pointer (some ⟨k,0,none⟩)] w fun e w'=> ∃v m,e=.returned v∧InJm w.heap.size w'.heap.size w' v m∧m.l.length≤11∧Dr k w w':=by
 obtain ⟨Z,J⟩:∃W,w.alloc (.cells #[.int .i64 0,.slice none 0 0,.int .i64 0] 25)=W:=⟨_,rfl⟩;have ao:=alb0v0v1 J;have R:=Q01 (show Dr k w Z from ⟨hc.below (ao.mono q),by rw [←J];exact Q0t w _ k⟩);have ah:Hid _:=alx0v0v1 J;have p:=alz0v0v1 J;clear ao hc;go_enter Tryz.func81,Tryz.ntmps81;go_wp2_with fail;refine (Q7K k Z R.out.cur (R.out.lt q)).mono ?_;rintro e P ⟨v,⟨key,cs,s⟩,rfl,⟨vl,rfl,C⟩,_,T,E⟩;obtain ⟨o,c,e1,_⟩:=ownL.open (L:=Q4j) C.1;subst e1;dsimp only at C T ⊢;obtain ⟨n,hn⟩:∃n,cs.length=n:=⟨_,rfl⟩;rw [hn] at C T ⊢;have an:=Q01 C.1
 have al:=Q01 (R.out.step E.cur E.gr);have ak:=Q01 (Q09 E.gr p (by omega) ah.out);have ap:Z.heap.size≤P.heap.size:=E.gr.size;have HN:=Q01 hn;clear E C ah R hn;have N:Below P.heap.size P (P.alloc (.cells #[.int .i64 key,.slice o n c,.int .i64 s] 25)):=(Below.refl _ _).alloc (Kaq _) _;have M:=Q01 (show JS k P.heap.size w.heap.size Z.heap.size w (P.alloc (.cells #[.int .i64 key,.slice o n c,.int .i64 s] 25)) key s cs o n c from ⟨HN.out.symm,World.alloc_heap_new P _,(N.block _ (by omega)).trans ak.out,Q03 an.out N,al.out.below q (N.mono (by omega))⟩)
 clear N ak al an;go_wp2_with fail;generalize (P.alloc (.cells #[.int .i64 key,.slice o n c,.int .i64 s] 25))=W2 at *;obtain ⟨B,hB⟩:∃B,P.heap.size=B:=⟨_,rfl⟩;simp only [hB] at M ap ⊢
 have t:B≠k:=by omega
 have u:w.heap.size≠k:=by omega
 have ab:w.heap.size≠B:=by omega
 have ad:w.heap.size≤B:=by omega
 have H:k < Z.heap.size:=by omega
 clear hB;refine (Q1v k 7 W2 M.out.dr.cur (by decide) (by decide)).mono ?_;rintro e I ⟨ar,rfl,aj,am⟩;have f:=Q01 (M.out.draw aj am t u H);clear aj am M
 cases ar with
 |false=>
  have z0:I.cell? ⟨B,0,none⟩=some (.int .i64 key):=Q00 f.out.box 0 _ rfl;have z1:I.cell? ⟨B,1,none⟩=some (.slice o n c):=Q00 f.out.box 1 _ rfl;have z2:I.cell? ⟨B,2,none⟩=some (.int .i64 s):=Q00 f.out.box 2 _ rfl;have r0:I.cell? ⟨w.heap.size,0,none⟩=some (.int .i64 0):=Q00 f.out.res 0 _ rfl;have Y:I.frozen? ⟨w.heap.size,0,none⟩=false:=Q02 f.out.res 0;have r1:I.cell? ⟨w.heap.size,1,none⟩=some (.slice none 0 0):=Q00 f.out.res 1 _ rfl;have ac:I.frozen? ⟨w.heap.size,1,none⟩=false:=Q02 f.out.res 1
  have U:I.cell? ⟨w.heap.size,2,none⟩=some (.int .i64 0):=Q00 f.out.res 2 _ rfl;have aa:I.frozen? ⟨w.heap.size,2,none⟩=false:=Q02 f.out.res 2;have A:=Q01 (f.out.done q (Nat.le_of_lt p));clear f;go_wp2;refine bodyPost_ret (v:=jrn key (.slice o n c) s) (by simp [results,Tryz.results81,go_sem,r0,r1,U]) rfl ⟨_,⟨key,cs,s⟩,rfl,A.out.1,show cs.length≤11 by have:=HN.out;omega,A.out.2⟩
 |true=>
  go_wp2_with fail;refine (Q0p k 3 I f.out.dr.cur (by decide) (by decide)).mono ?_;rintro e V ⟨x,rfl,az,ay,ag,ae⟩;have d:=Q01 (f.out.draw ag ae t u H);clear ag ae f
  by_cases e0:x=0
  ·subst e0
   have z1:V.cell? ⟨B,1,none⟩=some (.slice o n c):=Q00 d.out.box 1 _ rfl;go_wp2_with fail;refine (Q2s k [-1,(n:Int)+1] V d.out.dr.cur (d.out.dr.lt q) (by simp) (by simp)).mono ?_;rintro e i ⟨y,_,rfl,r,D⟩;have j:=d.out.draw r D t u H;have b:=j.set2 q ad ab y;have y2:i.cell? ⟨B,2,none⟩=some (.int .i64 s):=Q00 j.box 2 _ rfl;have au:i.frozen? ⟨B,2,none⟩=false:=Q02 j.box 2;have q0:(i.setCell ⟨B,2,none⟩ (.int .i64 y)).cell? ⟨B,0,none⟩=some (.int .i64 key):=Q00 b.box 0 _ rfl
   have q1:(i.setCell ⟨B,2,none⟩ (.int .i64 y)).cell? ⟨B,1,none⟩=some (.slice o n c):=Q00 b.box 1 _ rfl;have q2:(i.setCell ⟨B,2,none⟩ (.int .i64 y)).cell? ⟨B,2,none⟩=some (.int .i64 y):=Q00 b.box 2 _ rfl;have r0:(i.setCell ⟨B,2,none⟩ (.int .i64 y)).cell? ⟨w.heap.size,0,none⟩=some (.int .i64 0):=Q00 b.res 0 _ rfl;have Y:(i.setCell ⟨B,2,none⟩ (.int .i64 y)).frozen? ⟨w.heap.size,0,none⟩=false:=Q02 b.res 0;have r1:(i.setCell ⟨B,2,none⟩ (.int .i64 y)).cell? ⟨w.heap.size,1,none⟩=some (.slice none 0 0):=Q00 b.res 1 _ rfl
   have ac:(i.setCell ⟨B,2,none⟩ (.int .i64 y)).frozen? ⟨w.heap.size,1,none⟩=false:=Q02 b.res 1;have U:(i.setCell ⟨B,2,none⟩ (.int .i64 y)).cell? ⟨w.heap.size,2,none⟩=some (.int .i64 0):=Q00 b.res 2 _ rfl;have aa:(i.setCell ⟨B,2,none⟩ (.int .i64 y)).frozen? ⟨w.heap.size,2,none⟩=false:=Q02 b.res 2;have A:=Q01 (b.done q (Nat.le_of_lt p));clear r D d j b;go_wp2;refine bodyPost_ret (v:=jrn key (.slice o n c) y) (by simp [results,Tryz.results81,go_sem,r0,r1,U]) rfl ⟨_,⟨key,cs,y⟩,rfl,A.out.1,show cs.length≤11 by have:=HN.out;omega,A.out.2⟩
  by_cases e1:x=1
  ·subst e1
   have z1:V.cell? ⟨B,1,none⟩=some (.slice o n c):=Q00 d.out.box 1 _ rfl;have av:Hid (isCur k V.drew):=d.out.dr.cur.below (Below.drew (Below.refl _ _));have aq:Hid (k < V.drew.heap.size):=d.out.dr.lt q;go_wp2
   go_region_law (first|(go_simp;go_at_call 72;refine (Q9j k _ av.out aq.out).mono ?_;rintro e w7 ⟨a,i2,g,rfl,hd⟩;have ai:V.grownBy w7 (some k):=⟨hd.gr.os,hd.gr.tape,hd.gr.output,hd.gr.size,hd.gr.block⟩;have J7:=d.out.draw hd.cur ai t u H;have y7:w7.cell? ⟨B,1,none⟩=some (.slice o n c):=Q00 J7.box 1 _ rfl;have aw:∀O,(w7.alloc O).cell? ⟨B,1,none⟩=some (.slice o n c):=(fun O=> Q00 (J7.below ((Below.refl _ _).alloc (Kaq _) O) q).box 1 _ rfl);have ax:Z.heap.size≤w7.heap.size:=(by have:=(Array.getElem?_eq_some_iff.1 J7.box).1;omega);clear hd ai;dsimp only)|(refine Q0i Qdk rfl (.tmp 27) (.tmp 30) rfl Z.heap.size (.slice o n c) cs rfl (World.ownsRow.alloc J7.own _) (some ⟨w7.heap.size,0,none⟩) 1 _ [(a,i2,g)] 1 rfl rfl (by simp) Q9u (by simp;have:=HN.out;omega) (by simp;omega) ?_;intro v8 G X af _;obtain ⟨F,z,e8,_⟩:=ownL.open (L:=Q4j) X;rw [List.length_append] at e8;rw [HN.out] at e8;subst e8;have R8:=J7.push q ad ab (Nat.le_of_lt p) p rfl X af;have p8:G.cell? ⟨B,1,none⟩=some (.slice o n c):=Q00 R8.1 1 _ rfl;have f8:G.frozen? ⟨B,1,none⟩=false:=Q02 R8.1 1))
   all_goals (
    have h:=R8.2;have q0:(G.setCell ⟨B,1,none⟩ (.slice F (n+1) z)).cell? ⟨B,0,none⟩=some (.int .i64 key):=Q00 h.box 0 _ rfl;have q1:(G.setCell ⟨B,1,none⟩ (.slice F (n+1) z)).cell? ⟨B,1,none⟩=some (.slice F (n+1) z):=Q00 h.box 1 _ rfl;have q2:(G.setCell ⟨B,1,none⟩ (.slice F (n+1) z)).cell? ⟨B,2,none⟩=some (.int .i64 s):=Q00 h.box 2 _ rfl;have r0:(G.setCell ⟨B,1,none⟩ (.slice F (n+1) z)).cell? ⟨w.heap.size,0,none⟩=some (.int .i64 0):=Q00 h.res 0 _ rfl;have Y:(G.setCell ⟨B,1,none⟩ (.slice F (n+1) z)).frozen? ⟨w.heap.size,0,none⟩=false:=Q02 h.res 0
    have r1:(G.setCell ⟨B,1,none⟩ (.slice F (n+1) z)).cell? ⟨w.heap.size,1,none⟩=some (.slice none 0 0):=Q00 h.res 1 _ rfl;have ac:(G.setCell ⟨B,1,none⟩ (.slice F (n+1) z)).frozen? ⟨w.heap.size,1,none⟩=false:=Q02 h.res 1;have U:(G.setCell ⟨B,1,none⟩ (.slice F (n+1) z)).cell? ⟨w.heap.size,2,none⟩=some (.int .i64 0):=Q00 h.res 2 _ rfl;have aa:(G.setCell ⟨B,1,none⟩ (.slice F (n+1) z)).frozen? ⟨w.heap.size,2,none⟩=false:=Q02 h.res 2;have A:=Q01 (h.done q (Nat.le_of_lt p));clear d h R8 X af J7 y7 aw z1;go_wp2
    refine bodyPost_ret (v:=jrn key (.slice F (n+1) z) s) (by simp [results,Tryz.results81,go_sem,r0,r1,U]) rfl ⟨_,⟨key,cs++[(a,i2,g)],s⟩,rfl,A.out.1,show (cs++[(a,i2,g)]).length≤11 by rw [List.length_append,HN.out];simp;omega,A.out.2⟩)
  ·go_wp2_with fail
   refine (Q2s k [-1,999999,1000000] V d.out.dr.cur (d.out.dr.lt q) (by decide) (by decide)).mono ?_;rintro e i ⟨y,_,rfl,r,D⟩;have j:=d.out.draw r D t u H;have b:=j.set0 q ad ab y;have y2:i.cell? ⟨B,0,none⟩=some (.int .i64 key):=Q00 j.box 0 _ rfl;have au:i.frozen? ⟨B,0,none⟩=false:=Q02 j.box 0;have q0:(i.setCell ⟨B,0,none⟩ (.int .i64 y)).cell? ⟨B,0,none⟩=some (.int .i64 y):=Q00 b.box 0 _ rfl;have q1:(i.setCell ⟨B,0,none⟩ (.int .i64 y)).cell? ⟨B,1,none⟩=some (.slice o n c):=Q00 b.box 1 _ rfl
   have q2:(i.setCell ⟨B,0,none⟩ (.int .i64 y)).cell? ⟨B,2,none⟩=some (.int .i64 s):=Q00 b.box 2 _ rfl;have r0:(i.setCell ⟨B,0,none⟩ (.int .i64 y)).cell? ⟨w.heap.size,0,none⟩=some (.int .i64 0):=Q00 b.res 0 _ rfl;have Y:(i.setCell ⟨B,0,none⟩ (.int .i64 y)).frozen? ⟨w.heap.size,0,none⟩=false:=Q02 b.res 0;have r1:(i.setCell ⟨B,0,none⟩ (.int .i64 y)).cell? ⟨w.heap.size,1,none⟩=some (.slice none 0 0):=Q00 b.res 1 _ rfl;have ac:(i.setCell ⟨B,0,none⟩ (.int .i64 y)).frozen? ⟨w.heap.size,1,none⟩=false:=Q02 b.res 1
   have U:(i.setCell ⟨B,0,none⟩ (.int .i64 y)).cell? ⟨w.heap.size,2,none⟩=some (.int .i64 0):=Q00 b.res 2 _ rfl;have aa:(i.setCell ⟨B,0,none⟩ (.int .i64 y)).frozen? ⟨w.heap.size,2,none⟩=false:=Q02 b.res 2;have A:=Q01 (b.done q (Nat.le_of_lt p));clear r D d j b;go_wp2;refine bodyPost_ret (v:=jrn y (.slice o n c) s) (by simp [results,Tryz.results81,go_sem,r0,r1,U]) rfl ⟨_,⟨y,cs,s⟩,rfl,A.out.1,show cs.length≤11 by have:=HN.out;omega,A.out.2⟩
def Q5B (lll:List (List (List Int))):Prop:=1≤lll.length∧lll.length≤3∧∀i,i < lll.length→(lll.getD i []).length=8∧∀j,((lll.getD i []).getD j []).length≤2
theorem Qeg (cs:List Cd):∀n,1≤(Q1u cs n).length
 |0=> by simp [Q1u]
 |n+1=> by rw [Q1u];simp
theorem QbV (key:Int) (R:List (List Bk)) (c:1≤R.length) (b:R.length≤3):Q5B (Q1e key R):=by
 refine ⟨by simpa [Q1e] using c,by simpa [Q1e] using b,fun i hi=> ?_⟩
 have a:i < R.length:=by simpa [Q1e] using hi
 rw [Q2X key R i a];exact ⟨Q1Q _ _,fun j=> Q6W _ _ j⟩
theorem GTabs.draw {w b:World} {base k:Nat} {hs:List Hd} {R:List (List (List Int))} (h:GTabs w base hs R) (c:w.grownBy b (some k)) (g:k < base):GTabs b base hs R:=
 ⟨h.1,fun i hi=> by
  obtain ⟨d,l,a,e,m,h2⟩:=h.2 i hi;refine ⟨d,l,a,e,Q3E (L:=Q0H) m c g,h2.grown c (fun q f=> ?_)⟩
  cases hob:(hv a q).ownBlock with
  |none=> exact .inl rfl
  |some j=> right;have:=((h2.row q f).lt j hob).1;intro e;simp at e;omega⟩
theorem Qda (k:Nat) (w:World) (hc:isCur k w) (I:k < w.heap.size):
  Calls Tryz.prog 134 #[.pointer (some ⟨k,0,none⟩)] w fun e w'=> ∃key l b hs h c2 p j,e=.returned (plv key (.slice h l.length c2) (.slice p b.length j))∧l.length≤100∧Q5B b∧Q1w w' w.heap.size (.slice h l.length c2) l∧ownL Q0H 51 w' w.heap.size (.slice p b.length j) hs∧GTabs w' w.heap.size hs b∧Dr k w w':=by
 obtain ⟨W0,u⟩:∃W,w.alloc (.cells #[.int .i64 0,.slice none 0 0,.slice none 0 0] 29)=W:=⟨_,rfl⟩;have ac:=alb0v0v1 u;have A:=Q01 (show Dr k w W0 from ⟨hc.below (ac.mono I),by rw [←u];exact Q0t w _ k⟩);have P:Hid _:=alx0v0v1 u;have ah:=alz0v0v1 u;clear ac hc;go_enter Tryz.func134,Tryz.ntmps134;go_wp2_with fail;refine (Q7K k W0 A.out.cur (A.out.lt I)).mono ?_;rintro e w1 ⟨v,⟨key,cs,s⟩,rfl,⟨vl,rfl,x⟩,Z,C,i⟩;obtain ⟨o,c,e1,_⟩:=ownL.open (L:=Q4j) x.1;subst e1;dsimp only at x C Z ⊢;obtain ⟨⟨ab,hl,_,_⟩,D⟩:=And.intro (Q0X Z) (Q1X Z)
 have t:=Q01 (Q33 Z cs.length (by omega));obtain ⟨W2,z⟩:∃W,w1.alloc (.cells #[.int .i64 key,.slice o cs.length c,.int .i64 s] 25)=W:=⟨_,rfl⟩;have g:=alb0v0v1 z;have aj:W0.heap.size≤w1.heap.size:=i.gr.size;have al:=g.size;have T:=Q01 ((A.out.step i.cur i.gr).below I (g.mono (by omega)));have O:=Q01 ((g.block _ (by omega)).trans (Q09 i.gr ah (by omega) P.out));have f:=Q01 (Q6B key o c cs W2 (ownL.rds (L:=Q4j) (Q03 x.1 g)) ab hl D)
 have j0:W2.cell? ⟨w1.heap.size,0,none⟩=some (.int .i64 key):=by rw [←z];simp [go_sem]
 have j1:W2.cell? ⟨w1.heap.size,1,none⟩=some (.slice o cs.length c):=by rw [←z];simp [go_sem]
 clear i x P A g D Z;obtain ⟨n,N⟩:∃n,cs.length=n:=⟨_,rfl⟩;rw [N] at z j1 f ⊢;have HN:=Q01 N;obtain ⟨d,q⟩:∃s,Q0k cs cs.length=s:=⟨_,rfl⟩;rw [N] at q hl C;rw [q] at f;rw [N,q] at t;obtain ⟨X,H⟩:∃s,Q1u cs n=s:=⟨_,rfl⟩;rw [H] at f;have G:=Q01 (show 1≤X.length∧X.length≤3 by rw [←H];exact ⟨Qeg cs n,Q7X cs n⟩);clear q H N;go_wp2_with fail;refine (f.out).mono ?_;rintro e w3 ⟨oB,cB,oR,cR,hs,rfl,ad,R,pt,ak,y⟩;have E:=Q01 ad;have af:=Q01 R;have J:=Q01 (QhD pt);have ag:=Q01 (T.out.below I (y.mono (by omega)))
 have aa:=Q01 ((y.block _ (by omega)).trans O.out);have ai:=y.size;clear ad R pt y f O T;have F:=Q01 (Q83 key d X (by have:=t.out.2;omega) G.out.2);have ae:=Q01 (QbV key X G.out.1 G.out.2);obtain ⟨b,B⟩:∃s,Q1e key X=s:=⟨_,rfl⟩;rw [B] at J F ae;clear B;have U:=Q01 (ownL.rds (L:=Q1d) E.out);have V:=(fun e=> (InRow.cap (InRow.of E.out)) d.length cB (by rw [e]):oB=none→cB=0)
 have M:=Q01 (QcP key oB cB d oR cR b hs.length J.out.1 w3 U.out V (by have:=t.out.2;omega) (RcR.mon.go (J.out.rc af.out) (Kcq _) (Kaq _)) (by omega) F.out.2.2.2.1 F.out.2.2.2.2);have Y:=Q01 J.out.1;clear U V;go_wp2_with fail;refine (M.out).mono ?_;rintro e m ⟨h,c2,p,j,hq,rfl,h1,h2,h3,y⟩;have a:=(y.block _ (by omega)).trans aa.out;have ao:=y.size;have r0:m.cell? ⟨w.heap.size,0,none⟩=some (.int .i64 0):=Q00 a 0 _ rfl;have am:m.frozen? ⟨w.heap.size,0,none⟩=false:=Q02 a 0;have r1:m.cell? ⟨w.heap.size,1,none⟩=some (.slice none 0 0):=Q00 a 1 _ rfl
 have ap:m.frozen? ⟨w.heap.size,1,none⟩=false:=Q02 a 1;have r2:m.cell? ⟨w.heap.size,2,none⟩=some (.slice none 0 0):=Q00 a 2 _ rfl;have an:m.frozen? ⟨w.heap.size,2,none⟩=false:=Q02 a 2
 have r:Hid (Q1w (setP m w.heap.size (.int .i64 key) (.slice h d.length c2) (.slice p hs.length j)) w.heap.size (.slice h d.length c2) d∧ownL Q0H 51 (setP m w.heap.size (.int .i64 key) (.slice h d.length c2) (.slice p hs.length j)) w.heap.size (.slice p hs.length j) hq∧GTabs (setP m w.heap.size (.int .i64 key) (.slice h d.length c2) (.slice p hs.length j)) w.heap.size hq b∧Dr k w (setP m w.heap.size (.int .i64 key) (.slice h d.length c2) (.slice p hs.length j))):=by
  have g1:=Q06 a 0 (.int .i64 key);have g2:=Q06 g1 1 (.slice h d.length c2);exact ⟨Q04 (Q0q (Q0q (Q0q h1 a Q87 0 _) g1 Q87 1 _) g2 Q87 2 _) (by omega),Q04 (Q0q (Q0q (Q0q h2 a Q9V 0 _) g1 Q9V 1 _) g2 Q9V 2 _) (by omega),GTabs.mono (((h3.putB a 0 _).putB g1 1 _).putB g2 2 _) (by omega),(ag.out.below I (y.mono (by omega))).below I (Q0E (Below.refl _ _) (Kaq _) _ _ _)⟩
 clear h1 h2 h3 y a M E af J ag aa;go_wp2;refine bodyPost_ret (v:=plv key (.slice h d.length c2) (.slice p hs.length j)) (by simp [results,Tryz.results134,go_sem,r0,r1,r2]) rfl ⟨key,d,b,hq,h,c2,p,j,by rw [←Y.out],t.out.2,ae.out,r.out.1,by rw [←Y.out];exact r.out.2.1,r.out.2.2.1,r.out.2.2.2⟩
theorem Qfd (a:List Int) (x y:Int):y∈Q7J a x↔y∈a∨y=x:=by
 unfold Q7J
 by_cases h:a.contains x=true
 ·rw [if_pos h]
  have b:x∈a:=by simpa using h
  exact ⟨fun h=> .inl h,fun h=> h.elim id (fun e=> by rw [e];exact b)⟩
 ·rw [if_neg h];simp
theorem Qdg (l:List Int):∀(b:List Int) (y:Int),y∈Q2Y b l↔y∈b∨y∈l:=by
 induction l with
 |nil=> intro b y;simp [Q2Y]
 |cons a l ih=>
  intro b y
  show y∈Q2Y (Q7J b a) l↔_
  rw [ih,Qfd];simp [or_assoc]
theorem Q9Y (b:Nat) (R:List (List (List Int))):∀(c:List Int) (y:Int),y∈R.foldl (fun c t=> Q2Y c (t.getD b [])) c↔y∈c∨∃t∈R,y∈t.getD b []:=by
 induction R with
 |nil=> intro c y;simp
 |cons a R ih=>
  intro c y;rw [List.foldl_cons,ih,Qdg]
  constructor
  ·rintro ((h|h)|⟨t,d,h2⟩)
   ·exact .inl h
   ·exact .inr ⟨a,by simp,h⟩
   ·exact .inr ⟨t,by simp [d],h2⟩
  ·rintro (h|⟨t,d,h2⟩)
   ·exact .inl (.inl h)
   ·rcases List.mem_cons.1 d with e|d
    ·subst e;exact .inl (.inr h2)
    ·exact .inr ⟨t,d,h2⟩
theorem Qbv {c:List Int} (x:Int) (h:c.Nodup):(Q7J c x).Nodup:=by
 unfold Q7J
 by_cases hc:c.contains x=true
 ·rw [if_pos hc];exact h
 ·rw [if_neg hc]
  have f:x∉c:=by simpa using hc
  rw [List.nodup_append];exact ⟨h,by simp,fun a g b d e=> by simp at d;subst d;subst e;exact f g⟩
theorem QaO (l:List Int):∀{out:List Int},out.Nodup→(Q2Y out l).Nodup:=by
 induction l with
 |nil=> intro out h;exact h
 |cons a l ih=> intro out h;exact ih (Qbv a h)
theorem Q8d (b:Nat) (R:List (List (List Int))):∀{c:List Int},c.Nodup→(R.foldl (fun c t=> Q2Y c (t.getD b [])) c).Nodup:=by
 induction R with
 |nil=> intro c h;exact h
 |cons a R ih=> intro c h;exact ih (QaO _ h)
theorem Q9w:∀(n:Nat) (l:List Int),l.Nodup→(∀x∈l,0≤x∧x < (n:Int))→l.length≤n
 |0,l,_,h=> by
  cases l with
  |nil=> simp
  |cons a l=> have:=h a (by simp);omega
 |n+1,l,hd,h=> by
  by_cases hn:((n:Int))∈l
  ·have f:=Q9w n (l.erase (n:Int)) (hd.erase _) (fun x c=> by
    have b:=(List.Nodup.mem_erase_iff hd).1 c;have:=h x b.2;have d:=b.1
    omega)
   rw [List.length_erase_of_mem hn] at f;omega
  ·have f:=Q9w n l hd (fun x c=> by
    have:=h x c
    have d:x≠(n:Int):=fun e=> hn (e ▸ c)
    omega)
   omega
theorem Qgn {l:List Int} (h:Q0T l=true):∀x∈l,0≤x∧x < 6:=by
 intro x b;obtain ⟨j,a,rfl⟩:=List.getElem_of_mem b
 cases hid:idB (l[j]) with
 |true=> unfold idB at hid;simp at hid;omega
 |false=>
  have c:=Qd0 (l:=l) a (by rw [List.getD_eq_getElem?_getD,List.getElem?_eq_getElem a];exact hid);rw [c] at h
  cases h
theorem RiV.grow {α:Type} {L:Lay α} {a b:Nat} {w c:World} {v:Value} {l:List α} {r:Option Nat} (h:RiV L a b w v l) (d:w.grownBy c r) (f:∀g,r=some g→g < a∨b≤g):RiV L a b c v l:=by
 cases r with
 |none=> exact h.step (Stp.grown (lo:=0) (hi:=0) d (fun b e=> by cases e)) (.inl (Kcq _))
 |some g=> exact h.step (Stp.grown (lo:=g) (hi:=g+1) d (fun b e=> by injection e with e;omega)) (by have:=f g rfl;omega)
theorem Qhg (f:Pt) (b:Nat) (h:b < 8):(ptA f)[b * 3]? =some (.bool (f b).1)∧(ptA f)[b * 3+1]? =some (.int .i64 (f b).2.1)∧(ptA f)[b * 3+2]? =some (.int .i64 (f b).2.2):=by
 have a:∀j,j < 3→(ptA f)[b * 3+j]? =(Qgk.cs (((List.range 8).map f).getD b Qgk.d))[j]? :=fun j c=> by
  have:=Q4K Qgk ((List.range 8).map f) b j (by simpa using h) c;rw [show Qgk.k=3 from rfl] at this;unfold ptA ptL;rw [List.getElem?_toArray];exact this
 have e:((List.range 8).map f).getD b Qgk.d=f b:=by simp [h]
 rw [e] at a;exact ⟨a 0 (by decide),a 1 (by decide),a 2 (by decide)⟩
theorem QhC (R:List (List (List Int))) (i:Nat) (h:i < R.length):(R.map Q38).getD i ptZ=Q38 (R.getD i []):=by simp [h]
theorem Q67 (v:Value) (m:Pm) (q:Int) (w:World) (hR:Q86 w.heap.size w v m) (hf:Q3q m):
  Calls Tryz.prog 92 #[v,.int .i64 q] w fun e w'=> ∃v',e=.returned v'∧Qa6 w' w.heap.size v' (Qe1 m q)∧Below w.heap.size w w':=by
 have s:=Q01 (show Qe1 m q=if (Q28 m && decide (0≤q) && decide (q < 8))=true then Q3l m.ring q.toNat else [] from rfl);have aC:=Q01 (fun h:Q28 m=true=> Q1B h);obtain ⟨vb,vr,rfl,ay,rr⟩:=hR;obtain ⟨o,c,rfl,r⟩:=ay.open;obtain ⟨oR,cR,rfl⟩:=RiR.len rr;obtain ⟨key,l,a⟩:=m;dsimp only at *;clear ay;obtain ⟨W0,ai⟩:∃W,(w.alloc (.cells #[.int .i64 key,.slice o l.length c,.slice oR a.length cR] 29))=W:=⟨_,rfl⟩;have z:=alb0v0v1 ai;have HB:=Q01 z;clear z;have zz:=alz0v0v1 ai;obtain ⟨z0,z1,z2⟩:=alc3v0v1 ai
 have au:=Q01 (Q75 key o c l oR cR a a.length rfl W0 ((r.kept HB.out (Kaq _)).le HB.out.size) (RiR.mon.go (RiR.stp.go rr (Stp.of (lo:=0) (hi:=0) HB.out) (.inl (Kcq _))) (Kaq _) HB.out.size) hf);have x:=Q01 (fun W=> Q2y q W);clear r rr;go_enter Tryz.func92,Tryz.ntmps92;go_wp2_with fail;refine au.out.mono ?_;rintro e v1 ⟨vP,rfl,h1,h2,hb⟩;have p:=Q01 (HB.out.trans (hb.mono HB.out.size));clear hb au HB z0 z1 z2 zz
 cases hp:Q28 ⟨key,l,a⟩ with
 |false=>
  rw [hp] at s;have e2:=h2 hp;subst e2;clear h1 h2;go_wp2;go_ret;exact ⟨_,rfl,by rw [s.out];exact World.ownsRow_nil _ _ _ _,p.out.alloc p.out.size _⟩
 |true=>
  rw [hp] at s;obtain ⟨o2,c2,e2,R⟩:=h1 hp;have HF:=Q01 (aC.out hp);subst e2;have aH:=Q01 (ownL.rds (L:=Q20) R);clear h1 h2 aC R hp
  by_cases h0:q < 0
  ·have P:(decide (0≤q) && decide (q < 8))=false:=by simp;omega
   rw [P] at x;clear P;go_wp2_with (first|(go_at_call 143;refine (x.out _).mono ?_;rintro e w1 ⟨rfl,rfl⟩));go_ret;exact ⟨_,rfl,by rw [s.out,if_neg (by simp;omega)];exact World.ownsRow_nil _ _ _ _,p.out.alloc p.out.size _⟩
  by_cases h8:8≤q
  ·have P:(decide (0≤q) && decide (q < 8))=false:=by simp;omega
   rw [P] at x;clear P;go_wp2_with (first|(go_at_call 143;refine (x.out _).mono ?_;rintro e w1 ⟨rfl,rfl⟩));go_ret;exact ⟨_,rfl,by rw [s.out,if_neg (by simp;omega)];exact World.ownsRow_nil _ _ _ _,p.out.alloc p.out.size _⟩
  obtain ⟨b,rfl⟩:∃b:Nat,q=(b:Int):=⟨q.toNat,by omega⟩
  have az:b < 8:=by omega
  have aS:(b:Int) < 8:=by omega
  have P:(decide (0≤(b:Int)) && decide ((b:Int) < 8))=true:=by simp;omega
  rw [P] at x;have aE:=Q01 (show Qe1 ⟨key,l,a⟩ (b:Int)=Q3l a b by rw [s.out,if_pos (by simp;omega)];simp);clear P s h0 h8;obtain ⟨n,hn⟩:∃n,a.length=n:=⟨_,rfl⟩;rw [hn];have al:=Q01 hn
  have aW:n≤3:=by rw [←hn];exact HF.out.2.2.2.1
  clear hn;obtain ⟨T,ae⟩:∃W,v1.alloc (.cells #[.int .i64 key,.slice o l.length c,.slice o2 n c2] 127)=W:=⟨_,rfl⟩;have af:=alb0v0v1 ae;have zz:=alz0v0v1 ae
  have z2:T.cell? ⟨v1.heap.size,2,none⟩=some (.slice o2 n c2):=by rw [←ae];simp [go_sem]
  have Z:=Q01 (p.out.trans (af.mono p.out.size));have HV:=Q01 af;clear af;go_wp2_with (first|(go_at_call 143;refine (x.out _).mono ?_;rintro e w1 ⟨rfl,rfl⟩))
  go_loopw [7,27] (fun ov iv wr=> ∃i:Nat,i≤n∧iv=.int .i64 (i:Int)∧Hid (Qa6 wr T.heap.size ov (Q3l (a.take i) b))∧(Q3l (a.take i) b).length≤2 * i∧Hid (Below T.heap.size T wr))
   (fun _ iv _=> n - (intOf iv).toNat)
  case atStart=> exact ⟨0,Kcq _,rfl,World.ownsRow_nil _ _ _ _,by simp [Q3l],Below.refl _ _⟩
  case round=>
   rename World=> wr
   rename_i ov _
   obtain ⟨i,a0,rfl,HO,hL,B⟩:=hrel
   by_cases hlt:i < n
   ·have aQ:(i:Int) < (n:Int):=by omega
    have D:i < a.length:=by rw [al.out];exact hlt
    have aA:=Q01 (aH.out.kept (HV.out.trans (B.out.mono HV.out.size)) (Kaq _))
    rcases aA.out with hh|⟨b1,off,rfl,aT,V⟩
    ·have:(a.map Q38).length=0:=by rw [hh];rfl
     rw [List.length_map] at this;omega
    have E:=Q01 (RdL.range V i (by rw [List.length_map];exact D));have ad:=Q01 (Qd3 a b i D);have t:=(Q4O (HF.out.2.2.2.2 i D)).2 b az;clear V aA;rw [QhC a i D] at E;obtain ⟨f,ag⟩:∃f,Q38 (a.getD i [])=f:=⟨_,rfl⟩;rw [ag] at E;have aD:=Q01 (show Q36 (f b)=(a.getD i []).getD b [] by rw [←ag];exact Q4w t);have am:=Q9P t;clear ag t;obtain ⟨row,ak⟩:∃row,(a.getD i []).getD b []=row:=⟨_,rfl⟩;rw [ak] at aD am ad;clear ak;obtain ⟨F,aq⟩:∃q,Q3l (a.take i) b=q:=⟨_,rfl⟩;rw [aq] at HO hL ad;clear aq
    obtain ⟨U,aa⟩:∃W,wr.alloc (.cells (ptA f) 188)=W:=⟨_,rfl⟩;have J:=alb0v0v1 aa
    have M:U.heap[wr.heap.size]? =some (.cells (ptA f) 188 (0,0)):=by rw [←aa];exact World.alloc_heap_new wr _
    have O:=Qhg f b az;have y0:U.cell? ⟨wr.heap.size,b * 3,none⟩=some (.bool (f b).1):=Q00 M _ _ O.1;have y1:U.cell? ⟨wr.heap.size,b * 3+1,none⟩=some (.int .i64 (f b).2.1):=Q00 M _ _ O.2.1;have y2:U.cell? ⟨wr.heap.size,b * 3+2,none⟩=some (.int .i64 (f b).2.2):=Q00 M _ _ O.2.2;have ar:=Q01 (Qcd (f b) U);have aU:=J.size;have ah:=Q01 (B.out.trans (J.mono B.out.size));have an:=Q01 (fun g e=> (HO.out.lt g e).2);have j:=Q01 (Q03 HO.out J);clear J M O HO B
    go_wp2_with (first|(refine wpList_load_mid rfl 188 (.tmp 29) rfl b1 (off+i * 24) rfl (ptL f) _ E.out ptU rfl ptI ?_)|(refine Q0R rfl (.tmp 9) (.tmp 30) rfl wr.heap.size f ptZ rfl rfl (World.alloc_heap_new wr _) ?_;rw [World.setRow_alloc_new,aa])|fail);refine ar.out.mono ?_;rintro e v3 ⟨o4,c4,rfl,av,H⟩;have G:=Q01 (InRow.ri (InRow.of av));rw [aD.out] at G ⊢;have aZ:=H.size;have aj:=Q01 (Q03 j.out H);have aB:=Q01 (ah.out.trans (H.mono ah.out.size));clear av H j ah ar y0 y1 y2;obtain ⟨m,hm⟩:∃r,row.length=r:=⟨_,rfl⟩;rw [hm] at am G ⊢;have HM:=Q01 hm;clear hm
    go_wp2
    go_loopw [7,36] (fun ov kv wq=> ∃k:Nat,k≤m∧kv=.int .i64 (k:Int)∧Hid (Qa6 wq T.heap.size ov (Q2Y F (row.take k)))∧(Q2Y F (row.take k)).length≤2 * i+k∧Hid (Below T.heap.size T wq)∧Hid (RiV Q2w U.heap.size v3.heap.size wq (.slice o4 m c4) row)∧v3.heap.size≤wq.heap.size∧Hid (∀g,ov.ownBlock=some g→g < U.heap.size∨v3.heap.size≤g))
     (fun _ kv _=> m - (intOf kv).toNat)
    case atStart=> exact ⟨0,Kcq _,rfl,aj.out,by simpa [Q2Y] using hL,aB.out,G.out,Kaq _,fun g e=> .inl (by have:=an.out g e;omega)⟩
    case round=>
     rename World=> wq
     rename_i a1 _
     obtain ⟨k,aX,rfl,j,ab,A,ac,aG,X⟩:=hrel;clear aj aB G E an
     by_cases hlk:k < m
     ·have aR:(k:Int) < (m:Int):=by omega
      have N:k < row.length:=by rw [HM.out];exact hlk
      obtain ⟨o5,c5,e6,aN⟩:=RiV.open ac.out;injection e6 with e7 e8 e9;subst e7
      rcases aN with hh|⟨b3,aw,rfl,aY,C⟩
      ·rw [hh] at N;exact absurd N (Nat.not_lt_zero _)
      have aJ:wq.cell? ⟨b3,aw+k,none⟩=some (.int .i64 (row.getD k 0)):=RdL.int C k N;have d:=Q01 (QbA F row k N);clear C e8 e9;obtain ⟨y,hy⟩:∃y,row.getD k 0=y:=⟨_,rfl⟩;rw [hy] at aJ d;clear hy;obtain ⟨Y,ao⟩:∃q,Q2Y F (row.take k)=q:=⟨_,rfl⟩;rw [ao] at j ab d;clear ao;obtain ⟨oo,co,e5,ap⟩:=ownL.open (L:=Q2w) j.out;subst e5;have HH:=Q01 (Qau oo co Y y wq ap (by omega));clear ap;go_wp2_with fail;refine HH.out.mono ?_;rintro e w4 ⟨rfl,rfl⟩;clear HH
      cases hh:Y.contains y with
      |true=>
       have HY:=Q01 (QeF hh);go_wp2;go_roundw
       case rel=> exact ⟨k+1,by omega,by go_num,by rw [d.out,HY.out];exact j.out,by rw [d.out,HY.out];omega,A.out,ac.out,aG,X.out⟩
       case measure=> simp [intOf];omega
      |false=>
       have HY:=Q01 (Qgc hh);have aV:=A.out.size;have HA:=Q01 (World.ownsRow.alloc j.out (.cells #[.int .i64 y] 3));have aK:=Q01 (ac.out.step (Stp.of (lo:=0) (hi:=0) ((Below.refl w4.heap.size w4).alloc (Kaq _) (.cells #[.int .i64 y] 3))) (.inl (Kcq _)));go_wp2_with (first|(at_builtin;refine Q08 QiH rfl (.tmp 44) (.tmp 46) rfl T.heap.size _ Y rfl HA.out (some ⟨w4.heap.size,0,none⟩) 1 _ [y] 1 rfl rfl (by simp) Qhz (by simp;omega) (by simp;omega) ?_));intro v5 w5 ax I u;have aL:=Q01 ((A.out.alloc A.out.size _).grown I (by simp;omega) (fun k h=> (HA.out.lt k h).1))
       have aF:=Q01 ax;have aP:=Q01 (aK.out.grow I X.out)
       have aO:v3.heap.size≤w5.heap.size:=by have:=I.size;simp at this;omega
       have aI:Hid (∀g,v5.ownBlock=some g→g < U.heap.size∨v3.heap.size≤g):=fun g e=> by
        rcases u with u|u
        ·rw [u] at e;exact X.out g e
        ·rw [u] at e;have:=Option.some.inj e;omega
       clear I ax u;go_wp2;go_roundw
       case rel=> exact ⟨k+1,by omega,by go_num,by rw [d.out,HY.out];exact aF.out,by rw [d.out,HY.out,List.length_append];simp;omega,aL.out,aP.out,aO,aI.out⟩
       case measure=> simp [intOf];omega
     ·have e:k=m:=by omega
      subst e;rw [←HM.out,List.take_length,←ad.out] at j ab;go_wp2;go_roundw
      case rel=> exact ⟨i+1,by omega,by go_num,j.out,by rw [HM.out] at ab;omega,A.out⟩
      case measure=> simp [intOf];omega
   ·have e:i=n:=by omega
    subst e;rw [←al.out,List.take_length] at HO;have aM:=Q01 (Z.out.trans (B.out.mono Z.out.size));go_wp2;go_ret;exact ⟨_,rfl,by rw [aE.out];exact Q04 HO.out Z.out.size,aM.out⟩
end Go.Proofs.YtpneolgdghbinaaGreat
