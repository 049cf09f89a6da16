/- Several texts in one: SPe, SPf, SPok, SPok2, SPok3, SPdo, SPdo2, CutP, NoteMath, SCan, SDr4b, SDr4c, SDrP, SDrP2, CandMath, SCan2. -/
import Derived.Laws.StructEq
import Derived.Test.YtpneolgdghbinaaGreatQRoutesL28
namespace Go.Proofs.YtpneolgdghbinaaGreat
open Go.ChangeShapes Go.WideShapes Go.ChangeAt Go.RowKit Go.Joins
set_option linter.unusedVariables false
set_option linter.unusedSimpArgs false
set_option maxRecDepth 100000
set_option maxHeartbeats 40000000
def Q98 (f g:Pt):Bool:=(List.range 8).all (fun i=> f i==g i)
theorem QiF:Tryz.prog.underlying 184=some (.array 2 3):=by kernel_rfl
theorem QgQ:Tryz.prog.cellsOf 3=1:=by kernel_rfl
theorem QhD:(Tryz.prog.info? 186).isSome=true:=by kernel_rfl
theorem Qhk:Tryz.prog.cellsOf 186=3:=by kernel_rfl
theorem Qc5 (w:World) (a b:Int):(part 3 #[.int .i64 a,.int .i64 b] 0).run Tryz.prog w=.ok (.int .i64 a) w:=run_part_plain w (by kernel_rfl) rfl
theorem QbW (w:World) (a b:Int):(part 3 #[.int .i64 a,.int .i64 b] 1).run Tryz.prog w=.ok (.int .i64 b) w:=run_part_plain w (by kernel_rfl) rfl
theorem Qg0 (w:World) (s:Bool) (a b:Int):(part 4 #[.bool s,.int .i64 a,.int .i64 b] 0).run Tryz.prog w=.ok (.bool s) w:=run_part_plain w (by kernel_rfl) rfl
theorem QgJ (d:Nat) (a b c f:Int) (w:World):(Op.equalIn (d+1+1) 184 (.agg #[.int .i64 a,.int .i64 b]) (.agg #[.int .i64 c,.int .i64 f])).run Tryz.prog w=.ok (a==c && b==f) w:=by
 obtain ⟨i,hi⟩:∃i,Tryz.prog.info? 3=some i:=by
  cases h:Tryz.prog.info? 3 with
  |none=> have:=Q9w;rw [h] at this;cases this
  |some i=> exact ⟨i,rfl⟩
 have g:=Tryz.underlying3;rw [run_equalIn_array w (d+1) _ _ QiF hi,QgQ,show List.range 2=[0,1] from rfl];simp only [Op.eqItems,Nat.zero_mul,Nat.one_mul,Nat.mul_one,Sem.run_bind,Qc5,QbW,Result.andThen_ok,run_equalIn_int w d 3 .i64 .i64 _ _ g]
 by_cases h1:a=c <;> by_cases h2:b=f <;> simp [h1,h2,Qc5,QbW,Sem.run_bind,run_equalIn_int w d 3 .i64 .i64 _ _ g]
theorem Qe9 (w:World) (s:Bool) (a b:Int):(part 184 #[.bool s,.int .i64 a,.int .i64 b] 1).run Tryz.prog w=.ok (.agg #[.int .i64 a,.int .i64 b]) w:=by
 have d:(isAgg 184).run Tryz.prog w=.ok true w:=by simp [go_sem]
 have h2:(sizeOf 184).run Tryz.prog w=.ok 2 w:=by
  have c:(Tryz.prog.info? 184).map (·.size)=some 2:=by kernel_rfl
  cases hq:Tryz.prog.info? 184 with
  |none=> simp [hq] at c
  |some i=> simp [hq] at c;simp [sizeOf,typeInfo,hq,c]
 simp [part,Sem.run_bind,d,h2]
theorem Qig (d:Nat) (p q:Ip) (w:World):(Op.equalIn (d+1+1+1) 186 (ipv p) (ipv q)).run Tryz.prog w=.ok (p==q) w:=by
 obtain ⟨s,a,b⟩:=p;obtain ⟨s',a',b'⟩:=q
 have hS:Tryz.prog.underlying 186=some (.struct (Tryz.prog.fieldsOf 186)):=by kernel_rfl
 have hF:(Tryz.prog.fieldsOf 186).toList.map (fun f=> (f.name,f.type,f.offset))=[("some",4,0),("ids",184,1)]:=by kernel_rfl
 rw [run_equalIn_struct w (d+1+1) 186 _ _ hS (by kernel_rfl)];generalize (Tryz.prog.fieldsOf 186).toList=fs at hF ⊢
 match fs,hF with
 |[],hF=> simp at hF
 |[_],hF=> simp at hF
 |_::_::_::_,hF=> simp at hF
 |[f1,f2],hF=>
  simp only [List.map_cons,List.map_nil,List.cons.injEq,Prod.mk.injEq,and_true] at hF;obtain ⟨⟨n1,t1,o1⟩,n2,t2,o2⟩:=hF;have hb:=Tryz.underlying4
  have hn1:¬(f1.name= "_"):=by rw [n1];decide
  have hn2:¬(f2.name= "_"):=by rw [n2];decide
  have e:((s,a,b)==(s',a',b'))=(s==s' && (a==a' && b==b')):=rfl;rw [e];simp only [Op.eqFields,ne_eq,hn1,hn2,not_false_eq_true,if_true,t1,t2,o1,o2,Sem.run_bind,Qg0,Qe9,QgJ,Result.andThen_ok,run_equalIn_bool' w (d+1) 4 _ _ hb]
  by_cases h1:s=s'
  ·subst h1
   simp only [beq_self_eq_true,Bool.not_true,Bool.false_eq_true,if_false,Sem.run_bind,Qe9,QgJ,Result.andThen_ok,Bool.true_and]
   cases hc:(a==a' && b==b') <;> simp
  ·have h1':(s==s')=false:=beq_eq_false_iff_ne.2 h1
   rw [h1'];simp
theorem QgF (w:World) (f:Pt) (i:Nat) (h:i < 8):(part 186 (ptA f) (i * 3)).run Tryz.prog w=.ok (ipv (f i)) w:=by
 simp [part,Sem.run_bind,QgL,Qf4,Qcs f i h]
theorem QbP (d:Nat) (f g:Pt) (w:World):∀a:List Nat,(∀i∈a,i < 8)→(Op.eqItems (d+1+1+1) 186 3 (ptA f) (ptA g) a).run Tryz.prog w=.ok (a.all (fun i=> f i==g i)) w
 |[],_=> by simp [Op.eqItems]
 |i::a,h=> by
  have hi:=h i (by simp);simp only [Op.eqItems,Sem.run_bind,QgF w f i hi,QgF w g i hi,Qig,Result.andThen_ok]
  cases hc:(f i==g i) with
  |false=> simp [hc]
  |true=> simp only [Bool.not_true,Bool.false_eq_true,if_false];rw [QbP d f g w a (fun j b=> h j (by simp [b]))];simp [hc]
theorem Qil (f g:Pt) (w:World):(Op.equalIn 10000 188 (ptv f) (ptv g)).run Tryz.prog w=.ok (Q98 f g) w:=by
 have hi:=QhD
 cases hq:Tryz.prog.info? 186 with
 |none=> rw [hq] at hi;cases hi
 |some i=>
  rw [show (10000:Nat)=9996+1+1+1+1 from rfl,run_equalIn_array w (9996+1+1+1) _ _ ptU hq,Qhk];exact QbP 9996 f g w _ (fun i hi=> by simpa using hi)
def Q1F (m:Pm):Bool:=Q1A m.key && Q0c m.l && decide (1≤m.ring.length) && decide (m.ring.length≤3) && (List.range m.ring.length).all (fun i=> Q16 (m.ring.getD i [])) && Q98 (Q38 (m.ring.getD 0 [])) (Q2F m.key m.l)
theorem QbO {m:Pm} (h:Q1A m.key=false∨Q0c m.l=false∨m.ring.length < 1∨3 < m.ring.length∨(∃i,i < m.ring.length∧Q16 (m.ring.getD i [])=false)∨Q98 (Q38 (m.ring.getD 0 [])) (Q2F m.key m.l)=false):Q1F m=false:=by
 rw [Bool.eq_false_iff];intro a;unfold Q1F at a;simp only [Bool.and_eq_true,decide_eq_true_eq,List.all_eq_true,List.mem_range] at a;obtain ⟨⟨⟨⟨⟨b,h2⟩,f⟩,g⟩,c⟩,d⟩:=a
 rcases h with h|h|h|h|⟨i,hi,h⟩|h
 ·rw [b] at h;cases h
 ·rw [h2] at h;cases h
 ·omega
 ·omega
 ·rw [c i hi] at h;cases h
 ·rw [d] at h;cases h
theorem Q9V {m:Pm} (a:Q1A m.key=true) (h2:Q0c m.l=true) (b:1≤m.ring.length) (c:m.ring.length≤3) (d:∀i,i < m.ring.length→Q16 (m.ring.getD i [])=true) (f:Q98 (Q38 (m.ring.getD 0 [])) (Q2F m.key m.l)=true):Q1F m=true:=by
 unfold Q1F;simp only [Bool.and_eq_true,decide_eq_true_eq,List.all_eq_true,List.mem_range];exact ⟨⟨⟨⟨⟨a,h2⟩,b⟩,c⟩,d⟩,f⟩
def QhZ (m:Pm) (o:Option Addr) (cap:Nat) (w:World) (e:Ending) (w':World):Prop:=∃vP,e=.returned (.tuple #[vP,.bool (Q1F m)])∧(Q1F m=true→∃o2 c2,vP=Q6u m.key (.slice o m.l.length cap) (.slice o2 m.ring.length c2)∧ownL Q1Z 188 w' w.heap.size (.slice o2 m.ring.length c2) (m.ring.map Q38))∧(Q1F m=false→vP=Q6u 0 (.slice none 0 0) (.slice none 0 0))∧Below w.heap.size w w'
theorem Q6e {m:Pm} {o:Option Addr} {cap:Nat} {w a:World} (h:Q1F m=false) (c:Below w.heap.size w a):QhZ m o cap w (.returned (.tuple #[Q6u 0 (.slice none 0 0) (.slice none 0 0),.bool false])) a:=
 ⟨_,by rw [h],fun b=> absurd (h.symm.trans b) (by simp),fun _=> rfl,c⟩
theorem QgR (w:World) (f:Pt):RdL Q1Z (w.alloc (.cells (ptA f) 188)).heap.size (w.alloc (.cells (ptA f) 188)) (some ⟨w.heap.size,0,none⟩) [f]:=ownL.rd (L:=Q1Z) (Q5x w f)
theorem QfT (R:List (List (List Int))) (i:Nat) (h:i < R.length):(R.map Q38).take (i+1)=(R.map Q38).take i++[Q38 (R.getD i [])]:=by
 have a:i < (R.map Q38).length:=by rw [List.length_map];exact h
 rw [List.take_succ_eq_append_getElem a];simp [h]
theorem Qev {w:World} {base:Nat} {v:Value} {a:List Pt} (h:ownL Q1Z 188 w base v a) (f:0 < a.length):∃g c,v=.slice (some ⟨g,0,none⟩) a.length c:=by
 rcases h.2 with ⟨_,d⟩|⟨g,cap,b,e,_⟩
 ·omega
 ·exact ⟨g,cap,e⟩
theorem Qez {w:World} {base g n c:Nat} {a:List (List (List Int))} (h:ownL Q1Z 188 w base (.slice (some ⟨g,0,none⟩) n c) (a.map Q38)) (d:0 < a.length):w.rangeAt g 0 (ptL (Q38 (a.getD 0 []))):=by
 rcases ownL.rds (L:=Q1Z) h with i|⟨b,off,e,_,r⟩
 ·have:(a.map Q38).length=0:=by rw [i];rfl
  rw [List.length_map] at this;omega
 ·injection e with e
  injection e with e1 e2 e3;subst e1 e2;have h2:=RdL.range r 0 (by rw [List.length_map];exact d)
  have f:(a.map Q38).getD 0 ptZ=Q38 (a.getD 0 []):=by simp [d]
  rw [f] at h2
  simpa using h2
theorem QhT {W:World} {B:Nat} {x y z:Value} {T:TypeId} (h:W.heap[B]? =some (.cells #[x,y,z] T (0,0))):W.cell? ⟨B,0,none⟩=some x∧W.cell? ⟨B,1,none⟩=some y∧W.cell? ⟨B,2,none⟩=some z∧W.frozen? ⟨B,0,none⟩=false∧W.frozen? ⟨B,1,none⟩=false∧W.frozen? ⟨B,2,none⟩=false:=
 ⟨Q00 h 0 _ rfl,Q00 h 1 _ rfl,Q00 h 2 _ rfl,Q02 h 0,Q02 h 1,Q02 h 2⟩
theorem Qhj:Tryz.prog.eqGuardType Tryz.prog.depth 188=false:=by kernel_rfl
theorem Q7t (key:Int) (o:Option Addr) (cap:Nat) (l:List Bk) (oR:Option Addr) (cR:Nat) (c:List (List (List Int))) (n:Nat) (az:n=c.length) (w:World) (hR:RdK w.heap.size w o l) (hG:RiR 0 w.heap.size w (.slice oR n cR) c) (hf:Q2f ⟨key,l,c⟩):
  Calls Tryz.prog 142 #[plv key (.slice o l.length cap) (.slice oR n cR)] w fun e w'=> QhZ ⟨key,l,c⟩ o cap w e w':=by
 have s:=Q01 az;obtain ⟨av,aM,aN,aw,ax⟩:=hf;dsimp only at av aM aN aw ax;rw [←az] at aM;have HX:=Q01 aw;have HY:=Q01 ax;clear az aw ax aN;obtain ⟨W0,G⟩:∃W,((w.alloc (.cells #[.int .i64 key,.slice o l.length cap,.slice oR n cR] 29)).alloc (.cells #[.int .i64 0,.slice none 0 0,.slice none 0 0] 127))=W:=⟨_,rfl⟩;have Z:=alb0v0v2 G;have P:=Q01 Z;clear Z;have zz:=alz0v0v2 G;obtain ⟨z0,z1,z2⟩:=alc3v0v2 G;have r:=alz0v1v2 G;obtain ⟨r0,r1,r2⟩:=alc3v1v2 G;obtain ⟨V,X,Y⟩:=alf3v1v2 G
 have a3:=Q01 (show W0.heap[w.heap.size+1]? =some (.cells #[.int .i64 0,.slice none 0 0,.slice none 0 0] 127 (0,0)) by rw [←G];exact Q1D w _ _ _);have bd:=r;have bg:=zz;have C:=Q01 (fun W=> Q0X key W);have B:=Q01 (Q33 o cap l W0 ((hR.kept P.out (Kaq _)).le P.out.size) av);have a5:=Q01 hR;have HG:=Q01 hG;clear hR hG;have N:=Q01 (fun h=> QbO (m:=⟨key,l,c⟩) h);have bn:=P.out.size
 cases hk:Q1A key with
 |false=>
  rw [hk] at C;go_enter Tryz.func142,Tryz.ntmps142;go_wp2_with (first|(go_at_call 115;refine (C.out _).mono ?_;rintro e w1 ⟨rfl,rfl⟩)|(go_at_call 175;refine B.out.mono ?_;rintro e w2 ⟨rfl,a⟩;have a:=Q01 a));refine bodyPost_ret (v:=.tuple #[Q6u 0 (.slice none 0 0) (.slice none 0 0),.bool false]) (by simp [results,Tryz.results142,go_sem,r0,r1,r2]) rfl (Q6e (N.out (.inl hk)) (Q0x P.out (Nat.le_succ _) _ _ _))
 |true=>
  rw [hk] at C;have HK:=Q01 hk;clear hk
  cases hbo:Q0c l with
  |false=>
   rw [hbo] at B;go_enter Tryz.func142,Tryz.ntmps142;go_wp2_with (first|(go_at_call 115;refine (C.out _).mono ?_;rintro e w1 ⟨rfl,rfl⟩)|(go_at_call 175;refine B.out.mono ?_;rintro e w2 ⟨rfl,a⟩;have s0:=bC a r0 r;have s1:=bC a r1 r;have s2:=bC a r2 r;have t0:=bF a V r;have t1:=bF a X r;have t2:=bF a Y r;have a:=Q01 a))
   refine bodyPost_ret (v:=.tuple #[Q6u 0 (.slice none 0 0) (.slice none 0 0),.bool false]) (by simp [results,Tryz.results142,go_sem,s0,s1,s2]) rfl (Q6e (N.out (.inr (.inl hbo))) (Q0x (P.out.trans (a.out.mono P.out.size)) (Nat.le_succ _) _ _ _))
  |true=>
   rw [hbo] at B;have aB:=Q01 hbo;clear hbo
   by_cases h1:(n:Int) < 1
   ·go_enter Tryz.func142,Tryz.ntmps142
    go_wp2_with (first|(go_at_call 115;refine (C.out _).mono ?_;rintro e w1 ⟨rfl,rfl⟩)|(go_at_call 175;refine B.out.mono ?_;rintro e w2 ⟨rfl,a⟩;have s0:=bC a r0 r;have s1:=bC a r1 r;have s2:=bC a r2 r;have t0:=bF a V r;have t1:=bF a X r;have t2:=bF a Y r;have y0:=bC a z0 zz;have y1:=bC a z1 zz;have y2:=bC a z2 zz;have a:=Q01 a))
    refine bodyPost_ret (v:=.tuple #[Q6u 0 (.slice none 0 0) (.slice none 0 0),.bool false]) (by simp [results,Tryz.results142,go_sem,s0,s1,s2]) rfl (Q6e (N.out (.inr (.inr (.inl (show c.length < 1 by have:=s.out;omega))))) (Q0x (P.out.trans (a.out.mono P.out.size)) (Nat.le_succ _) _ _ _))
   by_cases h3:(3:Int) < (n:Int)
   ·go_enter Tryz.func142,Tryz.ntmps142
    go_wp2_with (first|(go_at_call 115;refine (C.out _).mono ?_;rintro e w1 ⟨rfl,rfl⟩)|(go_at_call 175;refine B.out.mono ?_;rintro e w2 ⟨rfl,a⟩;have s0:=bC a r0 r;have s1:=bC a r1 r;have s2:=bC a r2 r;have t0:=bF a V r;have t1:=bF a X r;have t2:=bF a Y r;have y0:=bC a z0 zz;have y1:=bC a z1 zz;have y2:=bC a z2 zz;have a:=Q01 a))
    refine bodyPost_ret (v:=.tuple #[Q6u 0 (.slice none 0 0) (.slice none 0 0),.bool false]) (by simp [results,Tryz.results142,go_sem,s0,s1,s2]) rfl (Q6e (N.out (.inr (.inr (.inr (.inl (show 3 < c.length by have:=s.out;omega)))))) (Q0x (P.out.trans (a.out.mono P.out.size)) (Nat.le_succ _) _ _ _))
   have a8:1≤n:=by omega
   have a9:n≤3:=by omega
   go_enter Tryz.func142,Tryz.ntmps142;go_wp2_with (first|(go_at_call 115;refine (C.out _).mono ?_;rintro e w1 ⟨rfl,rfl⟩)|(go_at_call 175;refine B.out.mono ?_;rintro e w2 ⟨rfl,a⟩;have s0:=bC a r0 r;have s1:=bC a r1 r;have s2:=bC a r2 r;have t0:=bF a V r;have t1:=bF a X r;have t2:=bF a Y r;have y0:=bC a z0 zz;have y1:=bC a z1 zz;have y2:=bC a z2 zz;have a:=Q01 a));have bk:=a.out.size;have a0:=Q01 (P.out.trans (a.out.mono P.out.size));have a4:=Q01 ((a.out.block _ bd).trans a3.out);clear z0 z1 z2 r0 r1 r2 V X Y s0 s1 s2 t0 t1 t2 C B
   go_loopw [4,35] (fun rv iv wr=> ∃(i:Nat),i≤n∧iv=.int .i64 (i:Int)∧Hid (ownL Q1Z 188 wr w2.heap.size rv ((c.map Q38).take i))∧Hid (∀j,j < i→Q16 (c.getD j [])=true)∧Hid (Below w2.heap.size w2 wr))
    (fun _ iv _=> n - (intOf iv).toNat)
   case atStart=> exact ⟨0,Kcq _,rfl,by rw [List.take_zero];exact World.ownsRow_nil _ _ _ _,fun j hj=> absurd hj (Nat.not_lt_zero _),Below.refl _ _⟩
   case round=>
    rename_i rv _
    obtain ⟨i,bj,rfl,F,aE,E⟩:=hrel;have bc:=E.out.size;have af:=bC E.out y0 (by omega);have ag:=bC E.out y1 (by omega);have aW:=bC E.out y2 (by omega);have q:=Q01 (a0.out.trans (E.out.mono (show w.heap.size≤w2.heap.size by omega)));have O:=(E.out.block _ (show w.heap.size+1 < w2.heap.size by omega)).trans a4.out
    by_cases hlt:i < n
    ·skip
     have bf:(i:Int) < (n:Int):=by omega
     have ac:i < c.length:=by rw [←s.out];exact hlt
     obtain ⟨b,off,o',c',rfl,ba,ai,ak⟩:=HG.out.at (Kaq _) i ac;have aL:=bC q.out ai ba;have aS:=(ak.kept q.out (Kaq _)).le q.out.size;have ap:=Q01 (QfT c i ac);have aU:=HX.out i ac;have aV:=HY.out i ac;have aD:=Q01 (fun h=> N.out (.inr (.inr (.inr (.inr (.inl ⟨i,ac,h⟩))))));have A:=Q01 (Q3p o' c' (c.getD i []) wr aS aU aV);clear ai ak aS aU aV;obtain ⟨ll,ay⟩:∃ll,c.getD i []=ll:=⟨_,rfl⟩;rw [ay] at aL ap aD A;have a1:=Q01 ay;clear ay;obtain ⟨m,hm⟩:∃m,ll.length=m:=⟨_,rfl⟩;rw [hm] at aL A;clear hm
     cases hok:Q16 ll with
     |false=>
      rw [hok] at A;simp only [Bool.false_eq_true,if_false] at A;have g0:=Q02 O 0;have g1:=Q02 O 1;have g2:=Q02 O 2;go_wp2_with fail;refine A.out.mono ?_;rintro e z ⟨rfl,D⟩;have aT:=D.size;have aj:=(D.block _ (show w.heap.size+1 < wr.heap.size by omega)).trans O;obtain ⟨R,H⟩:∃W,z.alloc (.cells (ptA ptZ) 188)=W:=⟨_,rfl⟩
      have x:R.heap[w.heap.size+1]? =some (.cells #[.int .i64 0,.slice none 0 0,.slice none 0 0] 127 (0,0)):=by rw [←H];exact (Below.heap_alloc _ _ _ (by omega)).trans aj
      have aX:Hid (Below w.heap.size w R):=by rw [←H];exact (q.out.trans (D.mono q.out.size)).alloc (by have:=q.out.size;omega) _
      have q0:R.cell? ⟨w.heap.size+1,0,none⟩=some (.int .i64 0):=Q00 x 0 _ rfl;have aI:=Q02 x 0;have q1:R.cell? ⟨w.heap.size+1,1,none⟩=some (.slice none 0 0):=Q00 x 1 _ rfl;have aJ:=Q02 x 1;have q2:R.cell? ⟨w.heap.size+1,2,none⟩=some (.slice none 0 0):=Q00 x 2 _ rfl;have aK:=Q02 x 2;clear D aj x;go_wp2_with (first|(refine Q0T rfl (.tmp 7) (.tmp 42) rfl z.heap.size ptZ ptZ rfl rfl (World.alloc_heap_new z _) ?_;rw [World.setRow_alloc_new,H]))
      refine bodyPost_ret (v:=.tuple #[Q6u 0 (.slice none 0 0) (.slice none 0 0),.bool false]) (by simp [results,Tryz.results142,go_sem,q0,q1,q2]) rfl (Q6e (aD.out hok) (Q0x aX.out (Nat.le_succ _) _ _ _))
     |true=>
      have aF:=Q01 hok;rw [hok] at A;simp only [if_true] at A;clear hok;obtain ⟨f,hf⟩:∃f,Q38 ll=f:=⟨_,rfl⟩;rw [hf] at A ap;clear hf;go_wp2_with fail;refine A.out.mono ?_;rintro e z ⟨rfl,D⟩;have aT:=D.size;obtain ⟨R,H⟩:∃W,z.alloc (.cells (ptA f) 188)=W:=⟨_,rfl⟩
      have J:Below wr.heap.size wr R:=by rw [←H];exact D.alloc aT _
      have a7:Hid (R.heap[z.heap.size]? =some (.cells (ptA f) 188 (0,0))):=by rw [←H];exact World.alloc_heap_new z _
      have aG:=Q01 (Q03 F.out J);have aY:=Q01 (E.out.trans (J.mono bc));have bl:=J.size;obtain ⟨oq,cq,eq,_⟩:=ownL.open (L:=Q1Z) F.out;have aC:=Q01 (show ((c.map Q38).take i).length=i by rw [List.length_take,List.length_map];omega);rw [aC.out] at eq;subst eq;clear D J;obtain ⟨W3,ar⟩:∃W,R.alloc (.cells (ptA f) 188)=W:=⟨_,rfl⟩;have ae:=alb0v0v1 ar;have a6:=Q01 (show RdL Q1Z W3.heap.size W3 (some ⟨R.heap.size,0,none⟩) [f] by rw [←ar];exact QgR R f);have ah:=Q01 (Q03 aG.out ae);have M:=Q01 (aY.out.trans (ae.mono (by omega)));have bm:=ae.size;clear ae
      go_wp2_with (first|(refine Q0T rfl (.tmp 7) (.tmp 42) rfl z.heap.size f ptZ rfl rfl (World.alloc_heap_new z _) ?_;rw [World.setRow_alloc_new,H])|(refine Q1Q rfl (.tmp 7) rfl z.heap.size rfl f a7.out ?_)|(refine Q29 rfl (.tmp 48) rfl f rfl ?_;rw [ar])|(at_builtin;refine Q09 QhE rfl (.tmp 47) (.tmp 49) rfl w2.heap.size (.slice oq i cq) ((c.map Q38).take i) rfl ah.out (some ⟨R.heap.size,0,none⟩) 1 W3.heap.size [f] 1 rfl rfl (by simp) a6.out (by rw [aC.out];simp;omega) (by omega) ?_));intro v8 w8 aQ aO _
      have aZ:=Q01 (M.out.grown aO (by omega) (fun k h=> (ah.out.lt k h).1));have a2:=Q01 aQ;clear aQ aO;go_wp2;go_roundw
      case rel=> exact ⟨i+1,by omega,by go_num,by rw [ap.out];exact a2.out,(fun j hj=> by rcases Nat.lt_succ_iff_lt_or_eq.1 hj with h'|h';(· exact aE.out j h');(· rw [h',a1.out];exact aF.out)),aZ.out⟩
      case measure=> simp [intOf];omega
    ·skip
     have e:i=n:=by omega
     subst e;have aA:=Q01 (show (c.map Q38).take i=c.map Q38 by rw [s.out,show c.length=(c.map Q38).length by simp,List.take_length]);rw [aA.out] at F;obtain ⟨g,cq,eq⟩:=Qev F.out (by rw [List.length_map,←s.out];omega);rw [List.length_map,←s.out] at eq;subst eq;have U:=Q01 (show wr.rangeAt g 0 (ptL (Q38 (c.getD 0 []))) from Qez F.out (by rw [←s.out];omega));have aP:g < wr.heap.size:=(F.out.lt g rfl).2
     have aq:=Q01 (fun h6=> Q9V (m:=⟨key,l,c⟩) HK.out aB.out (by show 1≤c.length;rw [←s.out];exact a8) (by show c.length≤3;rw [←s.out];exact a9) (fun j hj=> aE.out j (by rw [s.out];exact hj)) h6);have an:=Q01 (fun h6=> N.out (.inr (.inr (.inr (.inr (.inr h6))))));have ao:=Q01 (Q1G key o cap l wr.drew ((a5.out.kept q.out (Kaq _)).le q.out.size) av HK.out aB.out);have am:=Q01 (fun W=> Qil (Q38 (c.getD 0 [])) (Q2F key l) W);obtain ⟨f0,au⟩:∃f,Q38 (c.getD 0 [])=f:=⟨_,rfl⟩;obtain ⟨f1,ab⟩:∃f,Q2F key l=f:=⟨_,rfl⟩;dsimp only at aq an;rw [au,ab] at aq an am
     rw [au] at U;rw [ab] at ao;clear au ab
     have bh:(0:Int) < (i:Int):=by omega
     have be:¬(i=0):=by omega
     have bi:=Qhj;have aH:=Q01 O;clear O h1 h3;have T:=Q01 (fun z (hb:Below wr.heap.size wr z)=> QhT ((hb.block _ (show w.heap.size+1 < wr.heap.size by omega)).trans aH.out))
     have y:w.heap.size < wr.heap.size:=by omega
     cases hr:Q98 f0 f1 with
     |false=>
      go_wp2;refine wp_region_held_drew (S:=(fun w'=> w'.rangeAt g 0 (ptL f0)∧w'.cell? ⟨w.heap.size,0,none⟩=some (.int .i64 key)∧w'.cell? ⟨w.heap.size,1,none⟩=some (.slice o l.length cap))) (by kernel_rfl) ⟨U.out,af,ag⟩ (fun hHeld=> ?_);refine wpAnyH_take (i:=0) (oi:=_) (v:=.slice (some ⟨g,0,none⟩) i cq) rfl (by kernel_rfl) (by kernel_rfl) (by kernel_rfl) (fun _ _ _ h=> h) (Or.inl ⟨by rfl,fun w d=> by obtain ⟨_,t,u⟩:=d;go_simp⟩) hHeld ?_
      try simp only [Act.put,List.setIfInBounds_toArray,List.set_cons_zero,List.set_cons_succ]
      refine wpAnyH_take (i:=1) (oi:=_) (v:=.pointer (some ⟨g,0,none⟩)) rfl (by kernel_rfl) (by kernel_rfl) (by kernel_rfl) (fun _ _ _ h=> h) (Or.inl ⟨by rfl,fun w d=> by obtain ⟨_,t,u⟩:=d;go_simp⟩) hHeld ?_
      try simp only [Act.put,List.setIfInBounds_toArray,List.set_cons_zero,List.set_cons_succ]
      refine wpAnyH_take (i:=2) (oi:=_) (v:=ptv f0) rfl (by kernel_rfl) (by kernel_rfl) (by kernel_rfl) (fun _ _ _ h=> h) (yieldsIf_load_mid (by rfl) _ _ rfl g 0 rfl (ptL f0) _ (fun w h=> h.1) ptU rfl ptI) hHeld ?_
      try simp only [Act.put,List.setIfInBounds_toArray,List.set_cons_zero,List.set_cons_succ]
      refine wpAnyH_take (i:=3) (oi:=_) (v:=.pointer (some ⟨w.heap.size,0,none⟩)) rfl (by kernel_rfl) (by kernel_rfl) (by kernel_rfl) (fun _ _ _ h=> h) (Or.inl ⟨by rfl,fun w d=> by obtain ⟨_,t,u⟩:=d;go_simp⟩) hHeld ?_
      try simp only [Act.put,List.setIfInBounds_toArray,List.set_cons_zero,List.set_cons_succ]
      refine wpAnyH_take (i:=4) (oi:=_) (v:=.int .i64 key) rfl (by kernel_rfl) (by kernel_rfl) (by kernel_rfl) (fun _ _ _ h=> h) (Or.inl ⟨by rfl,fun w d=> by obtain ⟨_,t,u⟩:=d;go_simp⟩) hHeld ?_
      try simp only [Act.put,List.setIfInBounds_toArray,List.set_cons_zero,List.set_cons_succ]
      refine wpAnyH_take (i:=5) (oi:=_) (v:=.pointer (some ⟨w.heap.size,1,none⟩)) rfl (by kernel_rfl) (by kernel_rfl) (by kernel_rfl) (fun _ _ _ h=> h) (Or.inl ⟨by rfl,fun w d=> by obtain ⟨_,t,u⟩:=d;go_simp⟩) hHeld ?_
      try simp only [Act.put,List.setIfInBounds_toArray,List.set_cons_zero,List.set_cons_succ]
      refine wpAnyH_take (i:=6) (oi:=_) (v:=.slice o l.length cap) rfl (by kernel_rfl) (by kernel_rfl) (by kernel_rfl) (fun _ _ _ h=> h) (Or.inl ⟨by rfl,fun w d=> by obtain ⟨_,t,u⟩:=d;go_simp⟩) hHeld ?_
      try simp only [Act.put,List.setIfInBounds_toArray,List.set_cons_zero,List.set_cons_succ]
      refine wpAnyH_ready (rs:=[7]) (by kernel_rfl) (by simp) ?_;refine AllReadyH.cons rfl (fun K hK=> ?_) AllReadyH.nil
      go_simp
      go_at_call 118;refine ao.out.mono ?_;rintro e z ⟨rfl,p⟩;replace p:Below wr.heap.size wr z:=(Below.drew (Below.refl _ _)).trans p;have k0:=bC p af y;have k1:=bC p ag y;have k2:=bC p aW y;have I:=Q1u U.out p aP;obtain ⟨q0,q1,q2,aI,aJ,aK⟩:=T.out z p;have M:=Q01 p;clear p;go_wp2_with fail;refine hK.out _ _ ⟨I,k0,k1⟩ (fun hHeld=> ?_);clear hK K
      try simp only [Act.put,List.setIfInBounds_toArray,List.set_cons_zero,List.set_cons_succ]
      refine wpAnyH_ready (rs:=[8]) (by kernel_rfl) (by simp) ?_;refine AllReadyH.cons rfl (fun K hK=> ?_) AllReadyH.nil;have aa:=am.out z;rw [hr] at aa
      go_simp
      refine hK.out _ _ ⟨I,k0,k1⟩ (fun hHeld=> ?_);clear hK K hHeld aa
      try simp only [Act.put,List.setIfInBounds_toArray,List.set_cons_zero,List.set_cons_succ]
      refine wpAnyH_done (by kernel_rfl) ?_ _;clear I;go_wp2;refine bodyPost_ret (v:=.tuple #[Q6u 0 (.slice none 0 0) (.slice none 0 0),.bool false]) (by simp [results,Tryz.results142,go_sem,q0,q1,q2]) rfl (Q6e (an.out hr) (Q0x (q.out.trans (M.out.mono q.out.size)) (Nat.le_succ _) _ _ _))
     |true=>
      go_wp2;refine wp_region_held_drew (S:=(fun w'=> w'.rangeAt g 0 (ptL f0)∧w'.cell? ⟨w.heap.size,0,none⟩=some (.int .i64 key)∧w'.cell? ⟨w.heap.size,1,none⟩=some (.slice o l.length cap))) (by kernel_rfl) ⟨U.out,af,ag⟩ (fun hHeld=> ?_);refine wpAnyH_take (i:=0) (oi:=_) (v:=.slice (some ⟨g,0,none⟩) i cq) rfl (by kernel_rfl) (by kernel_rfl) (by kernel_rfl) (fun _ _ _ h=> h) (Or.inl ⟨by rfl,fun w d=> by obtain ⟨_,t,u⟩:=d;go_simp⟩) hHeld ?_
      try simp only [Act.put,List.setIfInBounds_toArray,List.set_cons_zero,List.set_cons_succ]
      refine wpAnyH_take (i:=1) (oi:=_) (v:=.pointer (some ⟨g,0,none⟩)) rfl (by kernel_rfl) (by kernel_rfl) (by kernel_rfl) (fun _ _ _ h=> h) (Or.inl ⟨by rfl,fun w d=> by obtain ⟨_,t,u⟩:=d;go_simp⟩) hHeld ?_
      try simp only [Act.put,List.setIfInBounds_toArray,List.set_cons_zero,List.set_cons_succ]
      refine wpAnyH_take (i:=2) (oi:=_) (v:=ptv f0) rfl (by kernel_rfl) (by kernel_rfl) (by kernel_rfl) (fun _ _ _ h=> h) (yieldsIf_load_mid (by rfl) _ _ rfl g 0 rfl (ptL f0) _ (fun w h=> h.1) ptU rfl ptI) hHeld ?_
      try simp only [Act.put,List.setIfInBounds_toArray,List.set_cons_zero,List.set_cons_succ]
      refine wpAnyH_take (i:=3) (oi:=_) (v:=.pointer (some ⟨w.heap.size,0,none⟩)) rfl (by kernel_rfl) (by kernel_rfl) (by kernel_rfl) (fun _ _ _ h=> h) (Or.inl ⟨by rfl,fun w d=> by obtain ⟨_,t,u⟩:=d;go_simp⟩) hHeld ?_
      try simp only [Act.put,List.setIfInBounds_toArray,List.set_cons_zero,List.set_cons_succ]
      refine wpAnyH_take (i:=4) (oi:=_) (v:=.int .i64 key) rfl (by kernel_rfl) (by kernel_rfl) (by kernel_rfl) (fun _ _ _ h=> h) (Or.inl ⟨by rfl,fun w d=> by obtain ⟨_,t,u⟩:=d;go_simp⟩) hHeld ?_
      try simp only [Act.put,List.setIfInBounds_toArray,List.set_cons_zero,List.set_cons_succ]
      refine wpAnyH_take (i:=5) (oi:=_) (v:=.pointer (some ⟨w.heap.size,1,none⟩)) rfl (by kernel_rfl) (by kernel_rfl) (by kernel_rfl) (fun _ _ _ h=> h) (Or.inl ⟨by rfl,fun w d=> by obtain ⟨_,t,u⟩:=d;go_simp⟩) hHeld ?_
      try simp only [Act.put,List.setIfInBounds_toArray,List.set_cons_zero,List.set_cons_succ]
      refine wpAnyH_take (i:=6) (oi:=_) (v:=.slice o l.length cap) rfl (by kernel_rfl) (by kernel_rfl) (by kernel_rfl) (fun _ _ _ h=> h) (Or.inl ⟨by rfl,fun w d=> by obtain ⟨_,t,u⟩:=d;go_simp⟩) hHeld ?_
      try simp only [Act.put,List.setIfInBounds_toArray,List.set_cons_zero,List.set_cons_succ]
      refine wpAnyH_ready (rs:=[7]) (by kernel_rfl) (by simp) ?_;refine AllReadyH.cons rfl (fun K hK=> ?_) AllReadyH.nil
      go_simp
      go_at_call 118;refine ao.out.mono ?_;rintro e z ⟨rfl,p⟩;replace p:Below wr.heap.size wr z:=(Below.drew (Below.refl _ _)).trans p;have k0:=bC p af y;have k1:=bC p ag y;have k2:=bC p aW y;have I:=Q1u U.out p aP;obtain ⟨q0,q1,q2,aI,aJ,aK⟩:=T.out z p;have M:=Q01 p;clear p;go_wp2_with fail;refine hK.out _ _ ⟨I,k0,k1⟩ (fun hHeld=> ?_);clear hK K
      try simp only [Act.put,List.setIfInBounds_toArray,List.set_cons_zero,List.set_cons_succ]
      refine wpAnyH_ready (rs:=[8]) (by kernel_rfl) (by simp) ?_;refine AllReadyH.cons rfl (fun K hK=> ?_) AllReadyH.nil;have aa:=am.out z;rw [hr] at aa
      go_simp
      refine hK.out _ _ ⟨I,k0,k1⟩ (fun hHeld=> ?_);clear hK K hHeld aa
      try simp only [Act.put,List.setIfInBounds_toArray,List.set_cons_zero,List.set_cons_succ]
      refine wpAnyH_done (by kernel_rfl) ?_ _;clear I;go_wp2;refine bodyPost_ret (v:=.tuple #[Q6u key (.slice o l.length cap) (.slice (some ⟨g,0,none⟩) i cq),.bool true]) (by simp [results,Tryz.results142,go_sem,q0,q1,q2]) rfl ?_;have al:=aq.out hr
      have ad:w.heap.size+1 < w2.heap.size:=by omega
      have aR:=Q0m (Q0m (Q0m (Q03 F.out M.out) ad 0 (.int .i64 key)) ad 1 (.slice o l.length cap)) ad 2 (.slice (some ⟨g,0,none⟩) i cq);have bb:=s.out;subst bb;exact ⟨_,by rw [al],fun _=> ⟨some ⟨g,0,none⟩,cq,rfl,Q04 aR (by omega)⟩,fun h=> absurd (h.symm.trans al) (by simp),Q0x (q.out.trans (M.out.mono q.out.size)) (Nat.le_succ _) _ _ _⟩
theorem QcQ {l:List Int} (h:∀j,j < l.length→idB (l.getD j 0)=true):Q0I l=(decide (l.length=0)||decide (l.length=2)):=by
 unfold Q0I
 by_cases h2:l.length=2
 ·rw [h 0 (by omega),h 1 (by omega)];simp
 ·simp [h2]
theorem Q8v {l:List Int} {j:Nat} (b:j < l.length) (h:idB (l.getD j 0)=false):Q0I l=false:=by
 unfold Q0I
 by_cases h2:l.length=2
 ·have a:¬(l.length=0):=by omega
  match j,b,h with
  |0,_,h=> simp only [h];simp [a]
  |1,_,h=> simp only [h];simp [a]
  |j+2,b,_=> omega
 ·have a:¬(l.length=0):=by omega
  simp [h2,a]
theorem Qdk (o:Option Addr) (cap:Nat) (l:List Int) (w:World) (k:RdI w.heap.size w o l) (D:l.length≤1048576):
  Calls Tryz.prog 103 #[.slice o l.length cap] w fun e B=> e=.returned (.bool (Q0I l))∧w=B:=by
 obtain ⟨A,u⟩:∃A,Q0I l=A:=⟨_,rfl⟩;rw [u];have f:=Q01 u;clear u;go_enter Tryz.func103,Tryz.ntmps103;go_wp2
 go_loop [3] (fun iv=> ∃i:Nat,i≤l.length∧iv=.int .i64 (i:Int)∧Hid (∀j,j < i→idB (l.getD j 0)=true))
  (fun iv=> l.length - (intOf iv).toNat)
 case atStart=> exact ⟨0,Kcq _,rfl,fun j v=> absurd v (Nat.not_lt_zero _)⟩
 case round=>
  obtain ⟨i,hi,rfl,m⟩:=hrel
  by_cases hlt:i < l.length
  ·rcases k with k|⟨b,off,rfl,z,d⟩
   ·subst k;simp at hlt
   have C:=RdL.int d i hlt
   have E:(i:Int) < (l.length:Int):=by omega
   have p:=Q01 (show idB (l.getD i 0)=(decide (0≤l.getD i 0) && decide (l.getD i 0 < 6)) from rfl);have g:=Q01 (fun h=> Q8v hlt h);have n:=Q01 (fun (h:idB (l.getD i 0)=true)=> fun j (v:j < i+1)=> (show idB (l.getD j 0)=true from (Nat.lt_succ_iff_lt_or_eq.1 v).elim (fun r=> m.out j r) (fun r=> r ▸ h)));clear d;generalize l.getD i 0=x at *
   by_cases h1:x < 0
   ·have a:A=false:=by rw [←f.out];exact g.out (by rw [p.out,decide_eq_false (by omega)];rfl)
    clear f;subst a;go_wp2;go_ret;exact ⟨rfl,rfl⟩
   ·by_cases h2:6≤x
    ·have a:A=false:=by rw [←f.out];exact g.out (by rw [p.out,decide_eq_false (show ¬x < 6 by omega)];simp)
     clear f;subst a;go_wp2;go_ret;exact ⟨rfl,rfl⟩
    ·have q:=Q01 (n.out (by rw [p.out,decide_eq_true (show 0≤x by omega),decide_eq_true (show x < 6 by omega)];rfl))
     clear p n g;go_wp2
     go_round
     case rel=> exact ⟨i+1,by omega,by go_num,q.out⟩
     case measure=> simp [intOf];omega
  ·have e:i=l.length:=by omega
   subst e;have a:=QcQ m.out;rw [f.out] at a
   by_cases h0:l.length=0
   ·have s:(l.length:Int)=0:=by omega
    have c:A=true:=by rw [a,decide_eq_true h0];rfl
    clear a f m k;subst c;go_wp2;go_ret;exact ⟨rfl,rfl⟩
   ·by_cases h2:l.length=2
    ·have c:A=true:=by rw [a,decide_eq_true h2];simp
     have y:=Q01 h2;clear a f m k h0 h2;subst c
     have t:(l.length:Int)=2:=by have:=y.out;omega
     go_wp2;go_ret;exact ⟨rfl,rfl⟩
    ·have c:A=false:=by rw [a,decide_eq_false h0,decide_eq_false h2];rfl
     have s:((l.length:Int)==0)=false:=beq_eq_false_iff_ne.2 (by omega);have t:((l.length:Int)==2)=false:=beq_eq_false_iff_ne.2 (by omega);clear a f m k;subst c;go_wp2;go_ret;exact ⟨rfl,rfl⟩
theorem Qaw {aa bb:List (List Int)}:∀k,Q0U aa bb k=0→∀i,i < k→aa.getD i []=bb.getD i []
 |0,_=> fun i hi=> absurd hi (Nat.not_lt_zero _)
 |k+1,h=> fun i hi=> by
  have c:=(Q4O aa bb k).1
  by_cases e:aa.getD k []=bb.getD k []
  ·have b:=Q3j (aa:=aa) (bb:=bb) (k:=k) rfl rfl e
   rcases Nat.lt_succ_iff_lt_or_eq.1 hi with a|a
   ·exact Qaw k (by omega) i a
   ·rw [a];exact e
  ·have b:=Q4g (aa:=aa) (bb:=bb) (k:=k) rfl rfl e
   omega
theorem Q4H {aa bb:List (List Int)}:∀k,(∀i,i < k→aa.getD i []=bb.getD i [])→Q0U aa bb k=0
 |0,_=> rfl
 |k+1,h=> by
  rw [←Q3j (aa:=aa) (bb:=bb) (k:=k) rfl rfl (h k (by omega))];exact Q4H k (fun i hi=> h i (by omega))
theorem Q6T {ll:List (List Int)} (h:Q16 ll=true):ll.length=8∧∀i,i < 8→Q0I (ll.getD i [])=true:=by
 unfold Q16 at h;simp only [Bool.and_eq_true,decide_eq_true_eq,List.all_eq_true,List.mem_range] at h;exact h
theorem QbM {key:Int} {l:List Bk} {ll:List (List Int)} (g:Q0c l=true) (h:Q16 ll=true):Q10 ll (Q2y key l)=0↔Q98 (Q38 ll) (Q2F key l)=true:=by
 obtain ⟨f,j⟩:=Q6T h
 have hm:Q10 ll (Q2y key l)=Q0U ll (Q2y key l) 8:=by rw [Q10,if_pos ⟨f,Q1y key l⟩]
 rw [hm]
 have d:∀i,i < 8→(Q2y key l).getD i []=Q17 key i l:=fun i hi=> by unfold Q2y;rw [Q2h _ _ _ hi]
 constructor
 ·intro a
  unfold Q98;rw [List.all_eq_true];intro i hi
  have b:i < 8:=by simpa using hi
  have c:=Qaw 8 a i b;unfold Q38 Q2F;rw [c,d i b];exact beq_self_eq_true _
 ·intro a
  unfold Q98 at a;rw [List.all_eq_true] at a;refine Q4H 8 (fun i hi=> ?_);have c:=eq_of_beq (a i (by simpa using hi));unfold Q38 Q2F at c;rw [d i hi,←Q4h (j i hi),c,Q4h (Q9k key i g)]
theorem QcB {m:Pm} (h:Q1F m=true):Q10 (m.ring.getD 0 []) (Q2y m.key m.l)=0:=by
 unfold Q1F at h;simp only [Bool.and_eq_true,decide_eq_true_eq,List.all_eq_true,List.mem_range] at h;obtain ⟨⟨⟨⟨⟨c,h2⟩,d⟩,f⟩,a⟩,b⟩:=h;exact (QbM h2 (a 0 (by omega))).2 b
theorem Qal {m:Pm} (b:Q1A m.key=true) (h2:Q0c m.l=true) (c:1≤m.ring.length) (d:m.ring.length≤3) (a:∀i,i < m.ring.length→Q16 (m.ring.getD i [])=true) (f:Q10 (m.ring.getD 0 []) (Q2y m.key m.l)=0):Q1F m=true:=
 Q9V b h2 c d a ((QbM h2 (a 0 (by omega))).1 f)
theorem Qgm (key:Int) (o:Option Addr) (cap:Nat) (l:List Bk) (oR:Option Addr) (cR:Nat) (t:List (List (List Int))) (n:Nat) (a7:1≤n) (a8:n≤3) (aT:n=t.length) (w:World) (hR:RdK w.heap.size w o l) (hG:RiR 0 w.heap.size w (.slice oR n cR) t) (hf:Q2f ⟨key,l,t⟩) (A:Bool) (hk:Q1A key=true) (au:Q0c l=true)
 (aU:Q1A key=false∨Q0c l=false∨t.length < 1∨3 < t.length∨(∃i,i < t.length∧Q16 (t.getD i [])=false)∨Q98 (Q38 (t.getD 0 [])) (Q2F key l)=false→A=false) (aS:A=true→Q10 (t.getD 0 []) (Q2y key l)=0)
 (aZ:Q1A key=true→Q0c l=true→1≤t.length→t.length≤3→(∀i,i < t.length→Q16 (t.getD i [])=true)→Q10 (t.getD 0 []) (Q2y key l)=0→A=true):
 Calls Tryz.prog 50 #[plv key (.slice o l.length cap) (.slice oR n cR)] w fun e w'=> e=.returned (.bool A)∧Below w.heap.size w w':=by
 have ag:=Q01 aT;obtain ⟨aO,aP,aQ,aD,aE⟩:=hf;dsimp only at aO aP aQ aD aE;have HX:=Q01 aD;have HY:=Q01 aE;have ak:=Q01 aU;have af:=Q01 aS;have ai:=Q01 aZ;have HK:=Q01 hk;have ap:=Q01 au;clear aT aD aE aQ aP aU aS aZ hk au;obtain ⟨y,aC⟩:∃W,(w.alloc (.cells #[.int .i64 key,.slice o l.length cap,.slice oR n cR] 29))=W:=⟨_,rfl⟩;have am:=alb0v0v1 aC;have V:=Q01 am;clear am;have u:=alz0v0v1 aC;obtain ⟨N,O,P⟩:=alc3v0v1 aC;have ad:=Q01 (fun W=> HK.out ▸ Q32 key W)
 have ab:=Q01 (fun p:Grown y=> ap.out ▸ Q4j o cap l p.v ((hR.kept (V.out.trans (p.b.mono V.out.size)) (Kaq _)).le (Kdq V.out.size p.b.size)) aO);have a2:=Q01 hR;have HG:=Q01 hG;clear hR hG;have bo:=V.out.size
 have an:0 < t.length:=by rw [←ag.out];omega
 have bc:=Q3I ap.out;obtain ⟨b,off,o',c',rfl,bb,aw,aA⟩:=HG.out.at (Kaq _) 0 an;have x:=bC V.out aw bb;rw [Nat.add_zero] at x;have a3:=Q01 aA;have a5:=Q01 (HX.out 0 an);have a6:=Q01 (HY.out 0 an);have ah:=Q01 (fun W (g:Below y.heap.size y W)=> Qbr key o cap l W ((a2.out.kept (V.out.trans (g.mono V.out.size)) (Kaq _)).le (Kdq V.out.size g.size)) (by omega) HK.out ap.out)
 have R:=Q01 (fun W (g:Below y.heap.size y W) oT cT (X:RdLL W.heap.size W oT (Q2y key l))=> (Q1y key l) ▸ Q5C o' oT c' cT (t.getD 0 []) (Q2y key l) W ((a3.out.kept (V.out.trans (g.mono V.out.size)) (Kaq _)).le (Kdq V.out.size g.size)) X a5.out (by rw [Q1y];omega) a6.out (fun i hi=> by have:=Q5U key l i;omega));clear aw aA;obtain ⟨m0,aR⟩:∃m,(t.getD 0 []).length=m:=⟨_,rfl⟩;rw [aR] at x R;clear aR;obtain ⟨r,hr⟩:∃r,Q10 (t.getD 0 []) (Q2y key l)=r:=⟨_,rfl⟩;rw [hr] at R af ai;clear hr
 have s:b < y.heap.size:=by omega
 by_cases hr0:r=0
 ·subst hr0
  have Y:n=1∨n=2∨n=3:=by omega
  rcases Y with rfl|rfl|rfl
  all_goals
   go_enter Tryz.func50,Tryz.ntmps50;go_wp2
   first
   |go_region_held3 (fun w'=> w'.cell? ⟨w.heap.size,0,none⟩=some (.int .i64 key)∧w'.cell? ⟨w.heap.size,1,none⟩=some (.slice o l.length cap)∧w'.cell? ⟨w.heap.size,2,none⟩=some (.slice (some ⟨b,off,none⟩) 1 cR)∧w'.cell? ⟨b,off,none⟩=some (.slice o' m0 c')) (first|with_reducible exact ⟨J,L,I,M⟩|with_reducible exact ⟨E,F,G,H⟩|with_reducible exact ⟨z,B,C,D⟩|with_reducible exact ⟨N,O,P,x⟩|go_keep) (first|(go_at_call 48;refine (ad.out _).mono ?_;rintro e _ ⟨rfl,rfl⟩)|(go_at_call 101;have a:=ab.out ⟨y.drew,Below.drew (Below.refl _ _)⟩;refine a.mono ?_;clear a;rintro e T ⟨rfl,g⟩;have c:Below y.heap.size y T:=(Below.drew (Below.refl _ _)).trans g;have z:=bC c N u;have B:=bC c O u;have C:=bC c P u;have D:=bC c x s;clear g)|(go_at_call 102;have a:=ah.out T c;with_reducible refine a.mono ?_;clear a;rintro e U ⟨vT,rfl,⟨oT,cT,rfl,X⟩,g⟩;have d:Below y.heap.size y U:=c.trans (g.mono c.size);have E:=bC d N u;have F:=bC d O u;have G:=bC d P u;have H:=bC d x s;clear g)|(go_at_call 65;have a:=R.out U d oT cT X;with_reducible refine a.mono ?_;clear a;rintro e Z ⟨rfl,g⟩;have f:Below y.heap.size y Z:=d.trans (g.mono d.size);have J:=bC f N u;have L:=bC f O u;have I:=bC f P u;have M:=bC f x s;clear g))
   |go_region_held3 (fun w'=> w'.cell? ⟨w.heap.size,0,none⟩=some (.int .i64 key)∧w'.cell? ⟨w.heap.size,1,none⟩=some (.slice o l.length cap)∧w'.cell? ⟨w.heap.size,2,none⟩=some (.slice (some ⟨b,off,none⟩) 2 cR)∧w'.cell? ⟨b,off,none⟩=some (.slice o' m0 c')) (first|with_reducible exact ⟨J,L,I,M⟩|with_reducible exact ⟨E,F,G,H⟩|with_reducible exact ⟨z,B,C,D⟩|with_reducible exact ⟨N,O,P,x⟩|go_keep) (first|(go_at_call 48;refine (ad.out _).mono ?_;rintro e _ ⟨rfl,rfl⟩)|(go_at_call 101;have a:=ab.out ⟨y.drew,Below.drew (Below.refl _ _)⟩;refine a.mono ?_;clear a;rintro e T ⟨rfl,g⟩;have c:Below y.heap.size y T:=(Below.drew (Below.refl _ _)).trans g;have z:=bC c N u;have B:=bC c O u;have C:=bC c P u;have D:=bC c x s;clear g)|(go_at_call 102;have a:=ah.out T c;with_reducible refine a.mono ?_;clear a;rintro e U ⟨vT,rfl,⟨oT,cT,rfl,X⟩,g⟩;have d:Below y.heap.size y U:=c.trans (g.mono c.size);have E:=bC d N u;have F:=bC d O u;have G:=bC d P u;have H:=bC d x s;clear g)|(go_at_call 65;have a:=R.out U d oT cT X;with_reducible refine a.mono ?_;clear a;rintro e Z ⟨rfl,g⟩;have f:Below y.heap.size y Z:=d.trans (g.mono d.size);have J:=bC f N u;have L:=bC f O u;have I:=bC f P u;have M:=bC f x s;clear g))
   |go_region_held3 (fun w'=> w'.cell? ⟨w.heap.size,0,none⟩=some (.int .i64 key)∧w'.cell? ⟨w.heap.size,1,none⟩=some (.slice o l.length cap)∧w'.cell? ⟨w.heap.size,2,none⟩=some (.slice (some ⟨b,off,none⟩) 3 cR)∧w'.cell? ⟨b,off,none⟩=some (.slice o' m0 c')) (first|with_reducible exact ⟨J,L,I,M⟩|with_reducible exact ⟨E,F,G,H⟩|with_reducible exact ⟨z,B,C,D⟩|with_reducible exact ⟨N,O,P,x⟩|go_keep) (first|(go_at_call 48;refine (ad.out _).mono ?_;rintro e _ ⟨rfl,rfl⟩)|(go_at_call 101;have a:=ab.out ⟨y.drew,Below.drew (Below.refl _ _)⟩;refine a.mono ?_;clear a;rintro e T ⟨rfl,g⟩;have c:Below y.heap.size y T:=(Below.drew (Below.refl _ _)).trans g;have z:=bC c N u;have B:=bC c O u;have C:=bC c P u;have D:=bC c x s;clear g)|(go_at_call 102;have a:=ah.out T c;with_reducible refine a.mono ?_;clear a;rintro e U ⟨vT,rfl,⟨oT,cT,rfl,X⟩,g⟩;have d:Below y.heap.size y U:=c.trans (g.mono c.size);have E:=bC d N u;have F:=bC d O u;have G:=bC d P u;have H:=bC d x s;clear g)|(go_at_call 65;have a:=R.out U d oT cT X;with_reducible refine a.mono ?_;clear a;rintro e Z ⟨rfl,g⟩;have f:Below y.heap.size y Z:=d.trans (g.mono d.size);have J:=bC f N u;have L:=bC f O u;have I:=bC f P u;have M:=bC f x s;clear g))
   have ao:=Q01 (V.out.trans (f.mono V.out.size));have aK:=Q01 f.size;clear z B C D E F G H X c d f;go_wp2
   go_loopw [3] (fun iv wr=> ∃i:Nat,i≤t.length∧iv=.int .i64 (i:Int)∧Hid (∀j,j < i→Q16 (t.getD j [])=true)∧Hid (Below Z.heap.size Z wr)) (fun iv _=> t.length - (intOf iv).toNat)
   case atStart=> exact ⟨0,Kcq _,rfl,fun j hj=> absurd hj (Nat.not_lt_zero _),Below.refl _ _⟩
   case round=>
    rename World=> wo
    obtain ⟨i,bl,rfl,aG,aa⟩:=hrel
    have bd:w.heap.size < Z.heap.size:=by have:=aK.out;omega
    have bf:b < Z.heap.size:=by have:=aK.out;omega
    have y2:=bC aa.out I bd;have ac:=Q01 (ao.out.trans (aa.out.mono ao.out.size));have bn:=aa.out.size
    by_cases hlt:i < t.length
    ·skip
     have ay:(i:Int) < ((t.length:Nat):Int):=by omega
     rw [←ag.out] at ay
     (try push_cast at ay)
     have av:=hlt;obtain ⟨b1,bi,o1,c1,e1,aL,ax,aB⟩:=HG.out.at (Kaq _) i av;injection e1 with e1;injection e1 with e2 e3 e4;subst e2 e3;clear e4;have aN:=bC ac.out ax aL;have aI:=Q01 aB;have aJ:=Q01 (HY.out i av);have aj:=Q01 (fun h=> ak.out (.inr (.inr (.inr (.inr (.inl ⟨i,av,h⟩))))));have aY:=HX.out i av;clear ax aB;obtain ⟨ll,aF⟩:∃ll,t.getD i []=ll:=⟨_,rfl⟩;rw [aF] at aN aI aJ aj aY;have a0:=Q01 aF;clear aF
     by_cases h8:ll.length=8
     ·rw [h8] at aN
      have H8:=Q01 h8;clear h8 aY
      have au:b < wo.heap.size:=by omega
      have bp:w.heap.size < wo.heap.size:=by omega
      go_wp2
      go_loopw [4] (fun kv wr=> ∃k:Nat,k≤8∧kv=.int .i64 (k:Int)∧Hid (∀q,q < k→Q0I (ll.getD q [])=true)∧wo=wr) (fun kv _=> 8 - (intOf kv).toNat)
      case atStart=> exact ⟨0,Kcq _,rfl,fun j hj=> absurd hj (Nat.not_lt_zero _),rfl⟩
      case round=>
       obtain ⟨k,bm,rfl,aH,rfl⟩:=hrel
       by_cases hlk:k < 8
       ·skip
        have bg:(k:Int) < 8:=by omega
        obtain ⟨b2,bj,o9,c9,rfl,be,aM,aW⟩:=((aI.out.kept ac.out (Kaq _)).le ac.out.size).at (Kaq _) k (by rw [H8.out];exact hlk);have ae:=Q01 (Qdk o9 c9 (ll.getD k []) wo aW (aJ.out k (by rw [H8.out];exact hlk)));have aq:=Q01 (fun h=> aj.out (Qct hlk h));have ar:=Q01 (fun (h:Q0I (ll.getD k [])=true)=> fun j (hj:j < k+1)=> (show Q0I (ll.getD j [])=true from (Nat.lt_succ_iff_lt_or_eq.1 hj).elim (fun h'=> aH.out j h') (fun h'=> h' ▸ h)));clear aW;obtain ⟨row,az⟩:∃r,ll.getD k []=r:=⟨_,rfl⟩;rw [az] at aM ae aq ar;clear az;obtain ⟨rl,aX⟩:∃r,row.length=r:=⟨_,rfl⟩
        rw [aX] at aM ae;clear aX
        cases hp:Q0I row with
        |false=>
         have al:=aq.out hp;rw [hp] at ae;clear ar aq aj ak af ai;subst al;go_wp2_with fail;refine ae.out.mono ?_;rintro e _ ⟨rfl,rfl⟩;go_wp2;go_ret;exact ⟨rfl,ac.out⟩
        |true=>
         have a1:=Q01 (ar.out hp);rw [hp] at ae;clear ar aq hp;go_wp2_with fail;refine ae.out.mono ?_;rintro e _ ⟨rfl,rfl⟩;go_wp2;go_roundw
         case rel=> exact ⟨k+1,by omega,by go_num,a1.out,(by first|rfl|trivial)⟩
         case measure=> simp [intOf];omega
       ·skip
        have e:k=8:=by omega
        subst e;have a4:=Q01 (Q7X H8.out aH.out);go_wp2;go_roundw
        case rel=> exact ⟨i+1,by omega,by go_num,(fun j hj=> (Nat.lt_succ_iff_lt_or_eq.1 hj).elim (fun h'=> aG.out j h') (fun h'=> by rw [h',a0.out];exact a4.out)),aa.out⟩
        case measure=> simp [intOf];omega
     ·have al:=aj.out (show Q16 ll=false by unfold Q16;rw [decide_eq_false h8,Bool.false_and])
      have a9:((ll.length:Int)==8)=false:=beq_eq_false_iff_ne.2 (by omega)
      have bk:((ll.length:Int) !=8)=true:=by simp [bne,a9]
      clear aj ak af ai;subst al
      have au:b < wo.heap.size:=by omega
      generalize ll.length=m at *;go_wp2;go_ret;exact ⟨rfl,ac.out⟩
    ·skip
     have e:i=t.length:=by omega
     rw [←ag.out] at e;subst e;have ba:=ai.out HK.out ap.out (by show 1≤t.length;rw [←ag.out];exact a7) (by show t.length≤3;rw [←ag.out];exact a8) (fun j hj=> aG.out j (by have:=ag.out;omega)) (by first|rfl|trivial);clear ak af ai;subst ba;go_wp2;go_ret;exact ⟨rfl,ac.out⟩
 ·have al:A=false:=by (cases A with|false=> rfl|true=> exact absurd (af.out rfl) hr0)
  have aV:(r==0)=false:=beq_eq_false_iff_ne.2 hr0
  have bh:(r !=0)=true:=by simp [bne,aV]
  clear af ak ai;subst al
  have Y:n=1∨n=2∨n=3:=by omega
  rcases Y with rfl|rfl|rfl
  all_goals
   go_enter Tryz.func50,Tryz.ntmps50;go_wp2
   first
   |go_region_held3 (fun w'=> w'.cell? ⟨w.heap.size,0,none⟩=some (.int .i64 key)∧w'.cell? ⟨w.heap.size,1,none⟩=some (.slice o l.length cap)∧w'.cell? ⟨w.heap.size,2,none⟩=some (.slice (some ⟨b,off,none⟩) 1 cR)∧w'.cell? ⟨b,off,none⟩=some (.slice o' m0 c')) (first|with_reducible exact ⟨J,L,I,M⟩|with_reducible exact ⟨E,F,G,H⟩|with_reducible exact ⟨z,B,C,D⟩|with_reducible exact ⟨N,O,P,x⟩|go_keep) (first|(go_at_call 48;refine (ad.out _).mono ?_;rintro e _ ⟨rfl,rfl⟩)|(go_at_call 101;have a:=ab.out ⟨y.drew,Below.drew (Below.refl _ _)⟩;refine a.mono ?_;clear a;rintro e T ⟨rfl,g⟩;have c:Below y.heap.size y T:=(Below.drew (Below.refl _ _)).trans g;have z:=bC c N u;have B:=bC c O u;have C:=bC c P u;have D:=bC c x s;clear g)|(go_at_call 102;have a:=ah.out T c;with_reducible refine a.mono ?_;clear a;rintro e U ⟨vT,rfl,⟨oT,cT,rfl,X⟩,g⟩;have d:Below y.heap.size y U:=c.trans (g.mono c.size);have E:=bC d N u;have F:=bC d O u;have G:=bC d P u;have H:=bC d x s;clear g)|(go_at_call 65;have a:=R.out U d oT cT X;with_reducible refine a.mono ?_;clear a;rintro e Z ⟨rfl,g⟩;have f:Below y.heap.size y Z:=d.trans (g.mono d.size);have J:=bC f N u;have L:=bC f O u;have I:=bC f P u;have M:=bC f x s;clear g))
   |go_region_held3 (fun w'=> w'.cell? ⟨w.heap.size,0,none⟩=some (.int .i64 key)∧w'.cell? ⟨w.heap.size,1,none⟩=some (.slice o l.length cap)∧w'.cell? ⟨w.heap.size,2,none⟩=some (.slice (some ⟨b,off,none⟩) 2 cR)∧w'.cell? ⟨b,off,none⟩=some (.slice o' m0 c')) (first|with_reducible exact ⟨J,L,I,M⟩|with_reducible exact ⟨E,F,G,H⟩|with_reducible exact ⟨z,B,C,D⟩|with_reducible exact ⟨N,O,P,x⟩|go_keep) (first|(go_at_call 48;refine (ad.out _).mono ?_;rintro e _ ⟨rfl,rfl⟩)|(go_at_call 101;have a:=ab.out ⟨y.drew,Below.drew (Below.refl _ _)⟩;refine a.mono ?_;clear a;rintro e T ⟨rfl,g⟩;have c:Below y.heap.size y T:=(Below.drew (Below.refl _ _)).trans g;have z:=bC c N u;have B:=bC c O u;have C:=bC c P u;have D:=bC c x s;clear g)|(go_at_call 102;have a:=ah.out T c;with_reducible refine a.mono ?_;clear a;rintro e U ⟨vT,rfl,⟨oT,cT,rfl,X⟩,g⟩;have d:Below y.heap.size y U:=c.trans (g.mono c.size);have E:=bC d N u;have F:=bC d O u;have G:=bC d P u;have H:=bC d x s;clear g)|(go_at_call 65;have a:=R.out U d oT cT X;with_reducible refine a.mono ?_;clear a;rintro e Z ⟨rfl,g⟩;have f:Below y.heap.size y Z:=d.trans (g.mono d.size);have J:=bC f N u;have L:=bC f O u;have I:=bC f P u;have M:=bC f x s;clear g))
   |go_region_held3 (fun w'=> w'.cell? ⟨w.heap.size,0,none⟩=some (.int .i64 key)∧w'.cell? ⟨w.heap.size,1,none⟩=some (.slice o l.length cap)∧w'.cell? ⟨w.heap.size,2,none⟩=some (.slice (some ⟨b,off,none⟩) 3 cR)∧w'.cell? ⟨b,off,none⟩=some (.slice o' m0 c')) (first|with_reducible exact ⟨J,L,I,M⟩|with_reducible exact ⟨E,F,G,H⟩|with_reducible exact ⟨z,B,C,D⟩|with_reducible exact ⟨N,O,P,x⟩|go_keep) (first|(go_at_call 48;refine (ad.out _).mono ?_;rintro e _ ⟨rfl,rfl⟩)|(go_at_call 101;have a:=ab.out ⟨y.drew,Below.drew (Below.refl _ _)⟩;refine a.mono ?_;clear a;rintro e T ⟨rfl,g⟩;have c:Below y.heap.size y T:=(Below.drew (Below.refl _ _)).trans g;have z:=bC c N u;have B:=bC c O u;have C:=bC c P u;have D:=bC c x s;clear g)|(go_at_call 102;have a:=ah.out T c;with_reducible refine a.mono ?_;clear a;rintro e U ⟨vT,rfl,⟨oT,cT,rfl,X⟩,g⟩;have d:Below y.heap.size y U:=c.trans (g.mono c.size);have E:=bC d N u;have F:=bC d O u;have G:=bC d P u;have H:=bC d x s;clear g)|(go_at_call 65;have a:=R.out U d oT cT X;with_reducible refine a.mono ?_;clear a;rintro e Z ⟨rfl,g⟩;have f:Below y.heap.size y Z:=d.trans (g.mono d.size);have J:=bC f N u;have L:=bC f O u;have I:=bC f P u;have M:=bC f x s;clear g))
   have ao:=Q01 (V.out.trans (f.mono V.out.size));clear z B C D E F G H X c d f;go_wp2;go_ret;exact ⟨rfl,ao.out⟩
theorem Q8U (key:Int) (o:Option Addr) (cap:Nat) (l:List Bk) (J:Option Addr) (I:Nat) (a:List (List (List Int))) (n:Nat) (B:n=a.length) (w:World) (R:RdK w.heap.size w o l) (X:RiR 0 w.heap.size w (.slice J n I) a) (Y:Q2f ⟨key,l,a⟩):
 Calls Tryz.prog 50 #[plv key (.slice o l.length cap) (.slice J n I)] w fun e w'=> e=.returned (.bool (Q1F ⟨key,l,a⟩))∧Below w.heap.size w w':=by
 have t:=Q01 B;have D:=Q01 Y;obtain ⟨E,F,G,y,z⟩:=Y;dsimp only at E F G y z;rw [←B] at F;have HX:=Q01 y;have HY:=Q01 z;clear B y z G;have c:=Q01 (fun h=> QbO (m:=⟨key,l,a⟩) h);have s:=Q01 (fun h=> QcB (m:=⟨key,l,a⟩) h);have u:=Q01 (fun N h2 U h4 h5 h6=> Qal (m:=⟨key,l,a⟩) N h2 U h4 h5 h6);obtain ⟨A,V⟩:∃A,Q1F ⟨key,l,a⟩=A:=⟨_,rfl⟩;rw [V] at c s u ⊢;dsimp only at c s u;clear V;obtain ⟨W0,x⟩:∃W,(w.alloc (.cells #[.int .i64 key,.slice o l.length cap,.slice J n I] 29))=W:=⟨_,rfl⟩;have q:=alb0v0v1 x
 have k:=Q01 q;clear q;have T:=alz0v0v1 x;obtain ⟨z0,z1,z2⟩:=alc3v0v1 x;have G0:=Grown.cell z0 T;have G1:=Grown.cell z1 T;have G2:=Grown.cell z2 T;have j:=Q01 (fun W=> Q32 key W);have i:=Q01 (fun p:Grown W0=> Q4j o cap l p.v ((R.kept (k.out.trans (p.b.mono k.out.size)) (Kaq _)).le (Kdq k.out.size p.b.size)) E);have M:=Q01 R;have Z:=Q01 X;clear R X;have ab:=k.out.size
 cases hk:Q1A key with
 |false=>
  rw [hk] at j;have d:=c.out (.inl hk);subst d;go_enter Tryz.func50,Tryz.ntmps50;go_wp2
  (refine Q0b (by kernel_rfl) (by kernel_rfl) ?_;intro r;(repeat (go_big_quiet_step (first|(go_at_call 48;exact Q4A _ (j.out _))|(go_at_call 101;exact Q1C _ (i.out _)))));(with_reducible refine wpQuiet_nil ?_);intro _ g;obtain ⟨C,f⟩:=g;subst f)
  go_wp2;go_ret;exact ⟨rfl,k.out.trans (C.b.mono k.out.size)⟩
 |true=>
  have HK:=Q01 hk;rw [hk] at j;clear hk
  cases hbo:Q0c l with
  |false=>
   rw [hbo] at i;have d:=c.out (.inr (.inl hbo));subst d;go_enter Tryz.func50,Tryz.ntmps50;go_wp2
   (refine Q0b (by kernel_rfl) (by kernel_rfl) ?_;intro r;(repeat (go_big_quiet_step (first|(go_at_call 48;exact Q4A _ (j.out _))|(go_at_call 101;exact Q1C _ (i.out _)))));(with_reducible refine wpQuiet_nil ?_);intro _ g;obtain ⟨C,f⟩:=g;subst f)
   go_wp2;go_ret;exact ⟨rfl,k.out.trans (C.b.mono k.out.size)⟩
  |true=>
   have L:=Q01 hbo;rw [hbo] at i;clear hbo
   by_cases N:(n:Int) < 1
   ·skip
    have d:=c.out (.inr (.inr (.inl (show a.length < 1 by have:=t.out;omega))));subst d;go_enter Tryz.func50,Tryz.ntmps50;go_wp2
    (refine Q0b (by kernel_rfl) (by kernel_rfl) ?_;intro r;(repeat (go_big_quiet_step (first|(go_at_call 48;exact Q4A _ (j.out _))|(go_at_call 101;exact Q1C _ (i.out _)))));(with_reducible refine wpQuiet_nil ?_);intro _ g;obtain ⟨C,f⟩:=g;subst f)
    go_wp2;go_ret;exact ⟨rfl,k.out.trans (C.b.mono k.out.size)⟩
   have aa:decide ((n:Int) < 1)=false:=decide_eq_false N
   by_cases U:(3:Int) < (n:Int)
   ·skip
    have d:=c.out (.inr (.inr (.inr (.inl (show 3 < a.length by have:=t.out;omega)))));subst d;go_enter Tryz.func50,Tryz.ntmps50;go_wp2
    (refine Q0b (by kernel_rfl) (by kernel_rfl) ?_;intro r;(repeat (go_big_quiet_step (first|(go_at_call 48;exact Q4A _ (j.out _))|(go_at_call 101;exact Q1C _ (i.out _)))));(with_reducible refine wpQuiet_nil ?_);intro _ g;obtain ⟨C,f⟩:=g;subst f)
    go_wp2;go_ret;exact ⟨rfl,k.out.trans (C.b.mono k.out.size)⟩
   have O:1≤n:=by omega
   have P:n≤3:=by omega
   have H:Q2f ⟨key,l,a⟩:=D.out;exact Qgm key o cap l J I a n O P t.out w M.out Z.out H A HK.out L.out c.out s.out u.out
theorem Q9e (v:Value) (m:Pm) (w:World) (d:Q60 w.heap.size w v m) (g:Q2f m):
  Calls Tryz.prog 50 #[v] w fun e i=> e=.returned (.bool (Q1F m))∧Below w.heap.size w i:=by
 obtain ⟨j,k,rfl,f,a⟩:=d;obtain ⟨o,c,rfl,r⟩:=f.open;obtain ⟨h,b,rfl⟩:=RiR.len a;exact Q8U m.key o c m.l h b m.ring m.ring.length rfl w r a g
def QaP (m:Pm) (k i g:Int):Pm:=if (Q1F m && Q0J k i g)=true then (match doL m.l k i g with|none=> m|some l=> ⟨m.key,l,(Q2y m.key l::m.ring).take 3⟩) else pm0
def Qhu (m:Pm) (k i g:Int):Bool:=(Q1F m && Q0J k i g) && (doL m.l k i g).isSome
theorem Q1e {m:Pm} (h:Q1F m=true):Q1A m.key=true∧Q0c m.l=true∧1≤m.ring.length∧m.ring.length≤3∧∀i,i < m.ring.length→Q16 (m.ring.getD i [])=true:=by
 unfold Q1F at h;simp only [Bool.and_eq_true,decide_eq_true_eq,List.all_eq_true,List.mem_range] at h;obtain ⟨⟨⟨⟨⟨a,h2⟩,b⟩,c⟩,d⟩,f⟩:=h;exact ⟨a,h2,b,c,d⟩
theorem Q72 {l:List Int} (h:Q0I l=true):l.length≤2:=by
 unfold Q0I at h;simp only [Bool.or_eq_true,Bool.and_eq_true,decide_eq_true_eq] at h;omega
theorem Qfw {ll:List (List Int)} (h:Q16 ll=true):Q49 (Q38 ll)=ll:=by
 obtain ⟨b,c⟩:=Q6T h;apply List.ext_getElem
 ·rw [Q3Y,b]
 ·intro i a h2
  have hi:i < 8:=by rw [Q3Y] at a;exact a
  have e:ll.getD i []=ll[i]:=by simp [h2]
  have:=Q4h (c i hi);rw [e] at this;simp [Q49,Q38,h2,this]
theorem Qa2 {R:List (List (List Int))} (h:∀i,i < R.length→Q16 (R.getD i [])=true):(R.map Q38).map Q49=R:=by
 apply List.ext_getElem
 ·simp
 ·intro i a h2
  have:=Qfw (h i h2)
  have e:R.getD i []=R[i]:=by simp [h2]
  rw [e] at this;simp [this]
theorem Qfd {key:Int} {l:List Bk} {R:List (List (List Int))} (a:Q0c l=true) (h:∀i,i < R.length→Q16 (R.getD i [])=true):(Q2F key l::(R.map Q38).take 2).map Q49=(Q2y key l::R).take 3:=by
 rw [List.map_cons,Q9s key a,List.map_take,Qa2 h]
 rfl
theorem Q7f {α:Type} (l:List α) (n i:Nat) (d:α) (h:i < n):(l.take n).getD i d=l.getD i d:=by
 rw [List.getD_eq_getElem?_getD,List.getElem?_take,if_pos h,←List.getD_eq_getElem?_getD]
theorem QgP {w:World} {base C:Nat} {k h:Option Addr} {q f d:Nat} {a c:List Hd} {key:Int} {l:List Bk} {R:List (List (List Int))} (u:C≤w.heap.size) (x:ownL Q0H 51 w base (.slice k q f) (((h,8,d)::a).take 3)) (t:ownL Q0H 47 w base (.slice h 8 d) c) (z:Tab (fun b=> Q17 key b l) 8 w base c) (v:a.length=R.length) (y:∀i,i < R.length→RcT 0 C w (hv a i) (R.getD i [])):RcR 0 w.heap.size w (.slice k q f) ((Q2y key l::R).take 3):=by
 refine ⟨((h,8,d)::a).take 3,by simp [v],(InRow.ri (InRow.of x)).mono (Kcq _) (Kaq _),fun i hi=> ?_⟩
 have g:i < 3:=by simp at hi;omega
 have r:hv (((h,8,d)::a).take 3) i=hv ((h,8,d)::a) i:=by unfold hv;rw [Q7f _ _ _ _ g]
 have s:((Q2y key l::R).take 3).getD i []=(Q2y key l::R).getD i []:=Q7f _ _ _ _ g;rw [r,s]
 cases i with
 |zero=>
  have m:=QaV z;refine ⟨c,m.len,(InRow.ri (InRow.of t)).mono (Kcq _) (Kaq _),fun j p=> ⟨(InRow.ri (InRow.of (m.row j p))).mono (Kcq _) (Kaq _),InRow.cap (InRow.of (m.row j p))⟩⟩
 |succ i=>
  have n:i < R.length:=by simp at hi;omega
  exact RcT.mon.go (y i n) (Kaq _) u
theorem Qh5 {m:Pm} (k i g:Int) (h:Q2f m):Q2f (QaP m k i g):=by
 unfold QaP
 split
 ·next c=>
  split
  ·exact h
  ·next l v=>
   simp only [Bool.and_eq_true] at c;obtain ⟨z,h2,A,B,u⟩:=Q1e c.1;have d:=Q8E h2 c.2 v;have s:=Q3I d
   have a:∀q,q < ((Q2y m.key l::m.ring).take 3).length→(((Q2y m.key l::m.ring).take 3).getD q []).length=8∧∀j,((((Q2y m.key l::m.ring).take 3).getD q []).getD j []).length≤2:=fun q b=> by
    have n:q < 3:=by simp at b;omega
    have t:((Q2y m.key l::m.ring).take 3).getD q []=(Q2y m.key l::m.ring).getD q []:=Q7f _ _ _ _ n;rw [t]
    cases q with
    |zero=> exact ⟨Q1y _ _,fun j=> Q5U _ _ j⟩
    |succ q=>
     have f:q < m.ring.length:=by simp at b;omega
     obtain ⟨x,y⟩:=Q6T (u q f);refine ⟨x,fun j=> ?_⟩
     by_cases r:j < 8
     ·exact Q72 (y j r)
     ·show ((m.ring.getD q []).getD j []).length≤2
      rw [List.getD_eq_getElem?_getD,List.getElem?_eq_none (by omega)];simp
   have w:((Q2y m.key l::m.ring).take 3).length≤3:=by simp;omega
   have p:∀q,lenR ((Q2y m.key l::m.ring).take 3) q≤16:=fun q=> by
    by_cases b:q < ((Q2y m.key l::m.ring).take 3).length
    ·unfold lenR szT
     have:=Q56 (QhO (((Q2y m.key l::m.ring).take 3).getD q [])) 2 (fun j=> (a q b).2 j) (((Q2y m.key l::m.ring).take 3).getD q []).length;rw [(a q b).1] at this ⊢;omega
    ·unfold lenR;rw [List.getD_eq_getElem?_getD,List.getElem?_eq_none (by omega)];exact Kcq _
   refine ⟨by show l.length≤_;omega,by show ((Q2y m.key l::m.ring).take 3).length≤_;omega, ?_,fun q b=> ?_,fun q b j r=> ?_⟩
   ·have:=Q56 (lenR ((Q2y m.key l::m.ring).take 3)) 16 p ((Q2y m.key l::m.ring).take 3).length
    show Qds (lenR ((Q2y m.key l::m.ring).take 3)) ((Q2y m.key l::m.ring).take 3).length≤_
    have hm:16 * ((Q2y m.key l::m.ring).take 3).length≤48:=by omega
    omega
   ·have:=(a q b).1
    show (((Q2y m.key l::m.ring).take 3).getD q []).length≤_
    omega
   ·have:=(a q b).2 j
    show ((((Q2y m.key l::m.ring).take 3).getD q []).getD j []).length≤_
    omega
 ·exact ⟨by simp [pm0],by simp [pm0],by simp [pm0,szR,Qds],fun i hi=> absurd hi (Nat.not_lt_zero _),fun i hi=> absurd hi (Nat.not_lt_zero _)⟩
theorem Q9u (v:Value) (m:Pm) (k i g:Int) (w:World) (hR:RcPm 0 w.heap.size w v m) (hf:Q2f m):
  Calls Tryz.prog 123 #[v,cmd k i g] w fun e w'=> ∃v',e=.returned (.tuple #[v',.bool (Qhu m k i g)])∧InPm w.heap.size w'.heap.size w' v' (QaP m k i g)∧Below w.heap.size w w':=by
 obtain ⟨vb,vr,rfl,aE,av,rr,aw⟩:=hR;obtain ⟨o,c,rfl,r⟩:=aE.open
 have ah:o=none→c=0:=fun e=> av _ _ (by rw [e])
 obtain ⟨oR,cR,rfl⟩:=RiR.len (RcR.ri rr)
 have aL:oR=none→cR=0:=fun e=> aw _ _ (by rw [e])
 clear aE av aw;obtain ⟨key,l,x⟩:=m;dsimp only at *;have H:=Q01 (show QaP ⟨key,l,x⟩ k i g=if (Q1F ⟨key,l,x⟩ && Q0J k i g)=true then (match doL l k i g with|none=> ⟨key,l,x⟩|some l'=> ⟨key,l',(Q2y key l'::x).take 3⟩) else pm0 from rfl);have I:=Q01 (show Qhu ⟨key,l,x⟩ k i g=((Q1F ⟨key,l,x⟩ && Q0J k i g) && (doL l k i g).isSome) from rfl);have ao:=Q01 (fun h:Q1F ⟨key,l,x⟩=true=> Q1e h);have ap:=Q01 hf;obtain ⟨ax,aK,ay,az,aA⟩:=hf;dsimp only at ax aK ay az aA;clear ay az aA
 obtain ⟨W0,O⟩:∃W,(((w.alloc (.cells #[.int .i64 key,.slice o l.length c,.slice oR x.length cR] 29)).alloc (.cells #[.int .i64 k,.int .i64 i,.int .i64 g] 77)).alloc (.cells #[.int .i64 0,.slice none 0 0,.slice none 0 0] 29))=W:=⟨_,rfl⟩;have ad:=alb0v0v3 O;have p:=Q01 ad;clear ad;have j:=alz0v0v3 O;obtain ⟨E,F,G⟩:=alc3v0v3 O;have f:=alz0v1v3 O;obtain ⟨u0,u1,u2⟩:=alc3v1v3 O;have d:=alz0v2v3 O;obtain ⟨B,C,D⟩:=alc3v2v3 O;obtain ⟨s,t,u⟩:=alf3v2v3 O;have aV:=d
 have ai:=Q01 (Q7t key o c l oR cR x x.length rfl W0 ((r.kept p.out (Kaq _)).le p.out.size) (RiR.mon.go (RiR.stp.go (RcR.ri rr) (Stp.of (lo:=0) (hi:=0) p.out) (.inl (Kcq _))) (Kaq _) p.out.size) ap.out);have P:=Q01 (fun W=> Q4P k i g W);have aq:=Q01 r;clear r rr;have aU:=p.out.size
 cases hp:Q1F ⟨key,l,x⟩ with
 |false=>
  rw [hp] at H I;go_enter Tryz.func123,Tryz.ntmps123;go_wp2_with fail;refine ai.out.mono ?_;rintro e v1 ⟨vP,rfl,_,h2,a⟩;have e2:=h2 hp;subst e2;rw [hp];clear h2;replace E:=bC a E j;replace F:=bC a F j;replace G:=bC a G j;replace j:=Kbq j a.size;replace u0:=bC a u0 f;replace u1:=bC a u1 f;replace u2:=bC a u2 f;replace f:=Kbq f a.size;replace B:=bC a B d;replace C:=bC a C d;replace D:=bC a D d;replace s:=bF a s d;replace t:=bF a t d;replace u:=bF a u d;replace d:=Kbq d a.size;replace p:=Q01 (p.out.trans (a.mono p.out.size))
  clear a;have A:Below v1.heap.size v1 (v1.alloc (.cells #[.int .i64 0,.slice none 0 0,.slice none 0 0] 127)):=(Below.refl _ _).alloc (Kaq _) _;replace E:=bC A E j;replace F:=bC A F j;replace G:=bC A G j;replace j:=Kbq j A.size;replace u0:=bC A u0 f;replace u1:=bC A u1 f;replace u2:=bC A u2 f;replace f:=Kbq f A.size;replace B:=bC A B d;replace C:=bC A C d;replace D:=bC A D d;replace s:=bF A s d;replace t:=bF A t d;replace u:=bF A u d;replace d:=Kbq d A.size;replace p:=Q01 (p.out.trans (A.mono p.out.size));clear A
  generalize Q0J k i g=ck at *;go_wp2_with fail;refine (P.out _).mono ?_;rintro e v2 ⟨rfl,a⟩;replace E:=bC a E j;replace F:=bC a F j;replace G:=bC a G j;replace j:=Kbq j a.size;replace u0:=bC a u0 f;replace u1:=bC a u1 f;replace u2:=bC a u2 f;replace f:=Kbq f a.size;replace B:=bC a B d;replace C:=bC a C d;replace D:=bC a D d;replace s:=bF a s d;replace t:=bF a t d;replace u:=bF a u d;replace d:=Kbq d a.size;replace p:=Q01 (p.out.trans (a.mono p.out.size));clear a;generalize (if ck=true then Q9v k i g else .nilIface)=dv;go_wp2
  refine bodyPost_ret (v:=.tuple #[plv 0 (.slice none 0 0) (.slice none 0 0),.bool false]) (by simp [results,Tryz.results123,go_sem,B,C,D]) rfl ⟨plv 0 (.slice none 0 0) (.slice none 0 0),by rw [I.out];simp, ?_,Q0x p.out (by omega) _ _ _⟩;rw [H.out,if_neg (by simp)];exact Qaq _ _ _ (Q0x p.out (show w.heap.size≤w.heap.size+1+1 by omega) _ _ _).size
 |true=>
  obtain ⟨hk,ag,aI,aJ,ak⟩:=ao.out hp;dsimp only at hk ag aI aJ ak;have HK:=Q01 hk;have aG:=Q01 ag;have ar:=Q01 ak;have aP:=Q3I ag;clear hk ag ak ao;rw [hp] at H I;have HP:=Q01 hp;clear hp
  cases hc:Q0J k i g with
  |false=>
   rw [hc] at P H I;simp only [Bool.false_eq_true,if_false] at P;go_enter Tryz.func123,Tryz.ntmps123;go_wp2_with fail;refine ai.out.mono ?_;rintro e v1 ⟨vP,rfl,h1,_,a⟩;obtain ⟨o2,c2,e2,N⟩:=h1 HP.out;dsimp only at e2 N;subst e2;rw [HP.out];have y:=Q01 N;have aM:=a.size;have aj:=Q01 (Q5s N);clear h1 N;have R:=Q01 (show (x.map Q38).length=x.length by simp);obtain ⟨n,hn⟩:∃n,x.length=n:=⟨_,rfl⟩;rw [hn] at y R ⊢;have HN:=Q01 hn;clear hn;replace E:=bC a E j;replace F:=bC a F j;replace G:=bC a G j;replace j:=Kbq j a.size;replace u0:=bC a u0 f
   replace u1:=bC a u1 f;replace u2:=bC a u2 f;replace f:=Kbq f a.size;replace B:=bC a B d;replace C:=bC a C d;replace D:=bC a D d;replace s:=bF a s d;replace t:=bF a t d;replace u:=bF a u d;replace d:=Kbq d a.size;replace p:=Q01 (p.out.trans (a.mono p.out.size));clear a;obtain ⟨W1,V⟩:∃W,(v1.alloc (.cells #[.int .i64 key,.slice o l.length c,.slice o2 n c2] 127))=W:=⟨_,rfl⟩;have b:=alb0v0v1 V;replace E:=bC b E j;replace F:=bC b F j;replace G:=bC b G j;replace j:=Kbq j b.size;replace u0:=bC b u0 f
   replace u1:=bC b u1 f;replace u2:=bC b u2 f;replace f:=Kbq f b.size;replace B:=bC b B d;replace C:=bC b C d;replace D:=bC b D d;replace s:=bF b s d;replace t:=bF b t d;replace u:=bF b u d;replace d:=Kbq d b.size;replace y:=Q01 (Q03 y.out b);replace p:=Q01 (p.out.trans (b.mono p.out.size));clear b;have z:=alz0v0v1 V;obtain ⟨X,Y,Z⟩:=alc3v0v1 V;have aD:=z;go_wp2_with fail;refine (P.out W1).mono ?_;rintro e v2 ⟨rfl,a⟩;have aN:=a.size;replace E:=bC a E j;replace F:=bC a F j
   replace G:=bC a G j;replace j:=Kbq j a.size;replace u0:=bC a u0 f;replace u1:=bC a u1 f;replace u2:=bC a u2 f;replace f:=Kbq f a.size;replace B:=bC a B d;replace C:=bC a C d;replace D:=bC a D d;replace s:=bF a s d;replace t:=bF a t d;replace u:=bF a u d;replace d:=Kbq d a.size;replace X:=bC a X z;replace Y:=bC a Y z;replace Z:=bC a Z z;replace z:=Kbq z a.size;replace y:=Q01 (Q03 y.out a);replace p:=Q01 (p.out.trans (a.mono p.out.size));clear a;go_wp2
   refine bodyPost_ret (v:=.tuple #[plv 0 (.slice none 0 0) (.slice none 0 0),.bool false]) (by simp [results,Tryz.results123,go_sem,B,C,D]) rfl ⟨plv 0 (.slice none 0 0) (.slice none 0 0),by rw [I.out];simp, ?_,Q0x p.out (by omega) _ _ _⟩;rw [H.out,if_neg (by simp)];exact Qaq _ _ _ (Q0x p.out (show w.heap.size≤w.heap.size+1+1 by omega) _ _ _).size
  |true=>
   have am:=Q01 (fun W h1=> Q3m o c l k i g W h1 ah (by omega) hc);have an:=Q01 (fun l' h=> Q8E aG.out hc h (m:=l'));rw [hc] at P H I;simp only [if_true] at P;clear hc;generalize Q9v k i g=dv at *;go_enter Tryz.func123,Tryz.ntmps123;go_wp2_with fail;refine ai.out.mono ?_;rintro e v1 ⟨vP,rfl,h1,_,a⟩;obtain ⟨o2,c2,e2,N⟩:=h1 HP.out;dsimp only at e2 N;subst e2;rw [HP.out];have y:=Q01 N;have aM:=a.size;have aj:=Q01 (Q5s N);clear h1 N;have R:=Q01 (show (x.map Q38).length=x.length by simp);obtain ⟨n,hn⟩:∃n,x.length=n:=⟨_,rfl⟩;rw [hn] at y R ⊢;have HN:=Q01 hn
   clear hn;replace E:=bC a E j;replace F:=bC a F j;replace G:=bC a G j;replace j:=Kbq j a.size;replace u0:=bC a u0 f;replace u1:=bC a u1 f;replace u2:=bC a u2 f;replace f:=Kbq f a.size;replace B:=bC a B d;replace C:=bC a C d;replace D:=bC a D d;replace s:=bF a s d;replace t:=bF a t d;replace u:=bF a u d;replace d:=Kbq d a.size;replace p:=Q01 (p.out.trans (a.mono p.out.size));clear a;obtain ⟨W1,V⟩:∃W,(v1.alloc (.cells #[.int .i64 key,.slice o l.length c,.slice o2 n c2] 127))=W:=⟨_,rfl⟩;have b:=alb0v0v1 V
   replace E:=bC b E j;replace F:=bC b F j;replace G:=bC b G j;replace j:=Kbq j b.size;replace u0:=bC b u0 f;replace u1:=bC b u1 f;replace u2:=bC b u2 f;replace f:=Kbq f b.size;replace B:=bC b B d;replace C:=bC b C d;replace D:=bC b D d;replace s:=bF b s d;replace t:=bF b t d;replace u:=bF b u d;replace d:=Kbq d b.size;replace y:=Q01 (Q03 y.out b);replace p:=Q01 (p.out.trans (b.mono p.out.size));clear b;have z:=alz0v0v1 V;obtain ⟨X,Y,Z⟩:=alc3v0v1 V;have aD:=z
   go_wp2_with fail;refine (P.out W1).mono ?_;rintro e v2 ⟨rfl,a⟩;have aN:=a.size;replace E:=bC a E j;replace F:=bC a F j;replace G:=bC a G j;replace j:=Kbq j a.size;replace u0:=bC a u0 f;replace u1:=bC a u1 f;replace u2:=bC a u2 f;replace f:=Kbq f a.size;replace B:=bC a B d;replace C:=bC a C d;replace D:=bC a D d;replace s:=bF a s d;replace t:=bF a t d;replace u:=bF a u d;replace d:=Kbq d a.size;replace X:=bC a X z;replace Y:=bC a Y z;replace Z:=bC a Z z;replace z:=Kbq z a.size;replace y:=Q01 (Q03 y.out a)
   replace p:=Q01 (p.out.trans (a.mono p.out.size));clear a;have aa:=Q01 (am.out v2 ((aq.out.kept p.out (Kaq _)).le p.out.size))
   cases hdo:doL l k i g with
   |none=>
    rw [hdo] at aa H I;simp only [Option.isSome_none] at aa;clear hdo;go_wp2_with fail;refine (aa.out).mono ?_;rintro e v3 ⟨v5,rfl,_,a⟩;have aO:=a.size
    skip
    replace E:=bC a E j;replace F:=bC a F j;replace G:=bC a G j;replace j:=Kbq j a.size;replace u0:=bC a u0 f;replace u1:=bC a u1 f;replace u2:=bC a u2 f;replace f:=Kbq f a.size;replace B:=bC a B d;replace C:=bC a C d;replace D:=bC a D d;replace s:=bF a s d;replace t:=bF a t d;replace u:=bF a u d;replace d:=Kbq d a.size;replace X:=bC a X z;replace Y:=bC a Y z;replace Z:=bC a Z z;replace z:=Kbq z a.size;replace y:=Q01 (Q03 y.out a);replace p:=Q01 (p.out.trans (a.mono p.out.size));clear a
    have U:=Q01 (Q5p key o c l o2 c2 (x.map Q38) v3 ((aq.out.kept p.out (Kaq _)).le p.out.size) ah ax (ownL.rds (L:=Q1Z) y.out) (by rw [R.out];have:=HN.out;omega));rw [Qa2 ar.out,R.out] at U;go_wp2_with fail;refine (U.out).mono ?_;rintro e v4 ⟨v9,rfl,ae,a⟩;have ab:=Q01 ae;have aR:=a.size;clear ae;obtain ⟨o9,c9,M,J,e9⟩:∃(o9:Option Addr) (c9:Nat) (M:Option Addr) (J:Nat),v9=plv key (.slice o9 l.length c9) (.slice M x.length J):=ab.out.opn;subst e9;replace E:=bC a E j;replace F:=bC a F j;replace G:=bC a G j;replace j:=Kbq j a.size
    replace u0:=bC a u0 f;replace u1:=bC a u1 f;replace u2:=bC a u2 f;replace f:=Kbq f a.size;replace B:=bC a B d;replace C:=bC a C d;replace D:=bC a D d;replace s:=bF a s d;replace t:=bF a t d;replace u:=bF a u d;replace d:=Kbq d a.size;replace X:=bC a X z;replace Y:=bC a Y z;replace Z:=bC a Z z;replace z:=Kbq z a.size;replace y:=Q01 (Q03 y.out a);replace p:=Q01 (p.out.trans (a.mono p.out.size));clear a;go_wp2
    refine bodyPost_ret (v:=.tuple #[plv key (.slice o9 l.length c9) (.slice M x.length J),.bool false]) (by simp [results,Tryz.results123,go_sem,B,C,D]) rfl ⟨plv key (.slice o9 l.length c9) (.slice M x.length J),by rw [I.out];simp, ?_,Q0x p.out (by omega) _ _ _⟩;rw [H.out,if_pos (by simp),Q35];exact InPm.mono (ab.out.step (Q3c v4 (w.heap.size+1+1) _ _ _) (.inl (by omega))) (by omega)
   |some mm=>
    have ac:=Q01 (an.out mm hdo);rw [hdo] at aa H I;simp only [Option.isSome_some] at aa;dsimp only at H;clear hdo an am;go_wp2_with fail;refine (aa.out).mono ?_;rintro e v3 ⟨v5,rfl,af,a⟩;have aO:=a.size;have al:=af mm rfl;obtain ⟨o5,c5,e5,_⟩:=ownL.open (L:=Q1b) al;subst e5;have T:=Q01 al;clear af al;replace E:=bC a E j;replace F:=bC a F j;replace G:=bC a G j;replace j:=Kbq j a.size;replace u0:=bC a u0 f;replace u1:=bC a u1 f;replace u2:=bC a u2 f;replace f:=Kbq f a.size;replace B:=bC a B d;replace C:=bC a C d
    replace D:=bC a D d;replace s:=bF a s d;replace t:=bF a t d;replace u:=bF a u d;replace d:=Kbq d a.size;replace X:=bC a X z;replace Y:=bC a Y z;replace Z:=bC a Z z;replace z:=Kbq z a.size;replace y:=Q01 (Q03 y.out a);replace p:=Q01 (p.out.trans (a.mono p.out.size));clear a;have aQ:=Q3I ac.out;have au:=Q01 (Q9d key o l.length c o2 c2 o5 c5 mm v3 (x.map Q38) (by rw [R.out];have:=HN.out;omega) (ownL.rds (L:=Q1Z) y.out) aj.out.1 aj.out.2 (ownL.rds (L:=Q1b) T.out) (by omega) HK.out ac.out);rw [R.out] at au;go_wp2_with fail
    refine (au.out).mono ?_;rintro e v6 ⟨o7,c7,rfl,aF,a⟩;have aS:=a.size;have aH:=Q01 aF;clear aF;replace E:=bC a E j;replace F:=bC a F j;replace G:=bC a G j;replace j:=Kbq j a.size;replace u0:=bC a u0 f;replace u1:=bC a u1 f;replace u2:=bC a u2 f;replace f:=Kbq f a.size;replace B:=bC a B d;replace C:=bC a C d;replace D:=bC a D d;replace s:=bF a s d;replace t:=bF a t d;replace u:=bF a u d;replace d:=Kbq d a.size;replace X:=bC a X z;replace Y:=bC a Y z;replace Z:=bC a Z z;replace z:=Kbq z a.size
    replace y:=Q01 (Q03 y.out a);replace T:=Q01 (Q03 T.out a);replace p:=Q01 (p.out.trans (a.mono p.out.size));clear a;have U:=Q01 (Q5p key o5 c5 mm o7 c7 (Q2F key mm::(x.map Q38).take 2) v6 (ownL.rds (L:=Q1b) T.out) (Q4y T.out) (by omega) (ownL.rds (L:=Q1Z) aH.out) (by simp;omega));rw [Qfd ac.out ar.out] at U;obtain ⟨nq,aB⟩:∃q,(Q2F key mm::(x.map Q38).take 2).length=q:=⟨_,rfl⟩;rw [aB] at U ⊢;obtain ⟨rg,aC⟩:∃q,(Q2y key mm::x).take 3=q:=⟨_,rfl⟩;rw [aC] at U H;clear aB aC;go_wp2_with fail;refine (U.out).mono ?_;rintro e v7 ⟨v9,rfl,ae,a⟩
    have ab:=Q01 ae;have aT:=a.size;clear ae;obtain ⟨o9,c9,M,J,e9⟩:∃(o9:Option Addr) (c9:Nat) (M:Option Addr) (J:Nat),v9=plv key (.slice o9 mm.length c9) (.slice M rg.length J):=ab.out.opn;subst e9;replace E:=bC a E j;replace F:=bC a F j;replace G:=bC a G j;replace j:=Kbq j a.size;replace u0:=bC a u0 f;replace u1:=bC a u1 f;replace u2:=bC a u2 f;replace f:=Kbq f a.size;replace B:=bC a B d;replace C:=bC a C d;replace D:=bC a D d;replace s:=bF a s d;replace t:=bF a t d;replace u:=bF a u d;replace d:=Kbq d a.size
    replace X:=bC a X z;replace Y:=bC a Y z;replace Z:=bC a Z z;replace z:=Kbq z a.size;replace y:=Q01 (Q03 y.out a);replace T:=Q01 (Q03 T.out a);replace p:=Q01 (p.out.trans (a.mono p.out.size));clear a;go_wp2;refine bodyPost_ret (v:=.tuple #[plv key (.slice o9 mm.length c9) (.slice M rg.length J),.bool true]) (by simp [results,Tryz.results123,go_sem,B,C,D]) rfl ⟨plv key (.slice o9 mm.length c9) (.slice M rg.length J),by rw [I.out];simp, ?_,Q0x p.out (by omega) _ _ _⟩;rw [H.out,if_pos (by simp),Q35]
    exact InPm.mono (ab.out.step (Q3c v7 (w.heap.size+1+1) _ _ _) (.inl (by omega))) (by omega)
theorem InPm.stps:Stps InPm:=⟨fun h s hd=> InPm.step h s hd⟩
theorem Q0d {W:World} {B:Nat} {c:Array Value} {t:TypeId} (h:W.heap[B]? =some (.cells c t (0,0))) (j:Nat) (u:Value) (hj:c[j]? =some u):W.cell? ⟨B,j,none⟩=some u:=Q00 h j u hj
theorem QiC {P:Nat→Nat→World→Value→Pm→Prop} (u:Stps P) {b W:World} {B lo hi:Nat} {f:Value} {a:Pm} {o g:Option Addr} {c d:Nat} {x y z:Value} (v:W.heap[B]? =some (.cells #[x,y,z] 29 (0,0))) (w:Below b.heap.size b W) (n:b.heap.size≤B) (j:P lo hi W (plv a.key (.slice o a.l.length c) (.slice g a.ring.length d)) a) (s:b.heap.size≤lo) (h2:hi≤W.heap.size) (t:B < lo∨hi≤B):
  ∃B' lo hi p m i h,Value.pointer (some ⟨B,0,none⟩)=.pointer (some ⟨B',0,none⟩)∧f=f∧Hid ((setP W B (.int .i64 a.key) (.slice o a.l.length c) (.slice g a.ring.length d)).heap[B']? =some (.cells #[.int .i64 a.key,.slice p a.l.length m,.slice i a.ring.length h] 29 (0,0)))∧Hid (Below b.heap.size b (setP W B (.int .i64 a.key) (.slice o a.l.length c) (.slice g a.ring.length d)))∧b.heap.size≤B'∧B' < (setP W B (.int .i64 a.key) (.slice o a.l.length c) (.slice g a.ring.length d)).heap.size∧Hid (P lo hi (setP W B (.int .i64 a.key) (.slice o a.l.length c) (.slice g a.ring.length d)) (plv a.key (.slice p a.l.length m) (.slice i a.ring.length h)) a)∧b.heap.size≤lo∧hi≤(setP W B (.int .i64 a.key) (.slice o a.l.length c) (.slice g a.ring.length d)).heap.size∧(B' < lo∨hi≤B'):=by
 have q:=Q07 v 0 (.int .i64 a.key);have r:=Q07 q 1 (.slice o a.l.length c);have k:=Q07 r 2 (.slice g a.ring.length d);exact ⟨B,lo,hi,o,c,g,d,rfl,rfl,k,Q0x w n _ _ _,n,(Array.getElem?_eq_some_iff.1 k).1,u.go j (Q3c W B _ _ _) (by omega),s,by rw [Q35];exact h2,t⟩
theorem Qim {P:Nat→Nat→World→Value→Pm→Prop} (q:Stps P) {b W:World} {lo hi:Nat} {f:Value} {a:Pm} {o g:Option Addr} {c d:Nat} (k:Below b.heap.size b W) (j:P lo hi W (plv a.key (.slice o a.l.length c) (.slice g a.ring.length d)) a) (p:b.heap.size≤lo) (h2:hi≤W.heap.size):
  ∃B' lo hi n m i h,Value.pointer (some ⟨W.heap.size,0,none⟩)=.pointer (some ⟨B',0,none⟩)∧f=f∧Hid ((W.alloc (.cells #[.int .i64 a.key,.slice o a.l.length c,.slice g a.ring.length d] 29)).heap[B']? =some (.cells #[.int .i64 a.key,.slice n a.l.length m,.slice i a.ring.length h] 29 (0,0)))∧Hid (Below b.heap.size b (W.alloc (.cells #[.int .i64 a.key,.slice o a.l.length c,.slice g a.ring.length d] 29)))∧b.heap.size≤B'∧B' < (W.alloc (.cells #[.int .i64 a.key,.slice o a.l.length c,.slice g a.ring.length d] 29)).heap.size∧Hid (P lo hi (W.alloc (.cells #[.int .i64 a.key,.slice o a.l.length c,.slice g a.ring.length d] 29)) (plv a.key (.slice n a.l.length m) (.slice i a.ring.length h)) a)∧b.heap.size≤lo∧hi≤(W.alloc (.cells #[.int .i64 a.key,.slice o a.l.length c,.slice g a.ring.length d] 29)).heap.size∧(B' < lo∨hi≤B'):=
 ⟨W.heap.size,lo,hi,o,c,g,d,rfl,rfl,World.alloc_heap_new W _,k.alloc k.size _,k.size,by simp,q.go j (Stp.of (lo:=0) (hi:=0) ((Below.refl _ _).alloc (Kaq _) _)) (.inl (Kcq _)),p,by simp;omega,.inr h2⟩
theorem Qcp {cs:List Cd} {a i g:Int} {m:List Bk} (j:(Q18 cs cs.length).isSome=true) (b:Q0J a i g=true) (c:doL (Q0f cs cs.length) a i g=some m):(Q18 (cs++[(a,i,g)]) (cs++[(a,i,g)]).length).isSome=true:=by
 obtain ⟨l,d⟩:=Option.isSome_iff_exists.1 j
 have f:Q0f cs cs.length=l:=by unfold Q0f;rw [d];rfl
 rw [f] at c
 have h:Q18 (cs++[(a,i,g)]) (cs++[(a,i,g)]).length=Q5O (Q18 cs cs.length) (a,i,g):=by
  unfold Q18;rw [List.take_length,List.take_length,List.foldl_append]
  rfl
 rw [h,d];unfold Q5O;simp [b,c]
theorem QdL {cs:List Cd} {c:Cd}:∀q,q≤cs.length→Q18 (cs++[c]) q=Q18 cs q:=fun q h=> by
 unfold Q18;rw [List.take_append_of_le_length h]
theorem Qcq {cs:List Cd} {c:Cd}:∀q,q≤cs.length→Q1q (cs++[c]) q=Q1q cs q
 |0,_=> rfl
 |q+1,h=> by
  unfold Q1q;rw [Qcq q (by omega)];unfold Q0f;rw [QdL (q+1) h]
theorem Qfk (cs:List Cd):∀q,(Q1q cs q).getD 0 []=Q0f cs q
 |0=> rfl
 |q+1=> by unfold Q1q;simp
theorem Q9O {key safe:Int} {cs:List Cd} (h:Q0l key cs safe=true):∀q,q≤cs.length→∀l∈Q1q cs q,Q0c l=true
 |0,_,l,a=> by
  have:l=[]:=by simpa [Q1q] using a
  subst this;exact (Q37 h 0 (by omega)).1
 |q+1,hq,l,a=> by
  unfold Q1q at a;have a:=List.mem_of_mem_take a
  rcases List.mem_cons.1 a with e|a
  ·rw [e];exact (Q37 h (q+1) (by omega)).1
  ·exact Q9O h q (by omega) l a
theorem Qg2 (cs:List Cd):∀q,1≤(Q1q cs q).length
 |0=> by simp [Q1q]
 |q+1=> by unfold Q1q;simp
theorem Q42 {m:Jm} (h:Q0l m.key m.l m.safe=true):Q1F (Q0F m)=true:=by
 have e:Q0F m=⟨m.key,Q0f m.l m.l.length,Q1c m.key (Q1q m.l m.l.length)⟩:=by unfold Q0F;rw [if_pos h]
 have d:=Q7r m.l m.l.length;have c:=Qg2 m.l m.l.length
 have b:(Q1c m.key (Q1q m.l m.l.length)).length=(Q1q m.l m.l.length).length:=by simp [Q1c]
 have a:=(Q37 h m.l.length (by omega)).1;rw [e];refine Qal (Q0W h).1 a (by dsimp only;omega) (by dsimp only;omega) (fun i hi=> ?_) ?_
 ·dsimp only at hi ⊢
  rw [Q2Y _ _ _ (by omega)];refine Qac m.key (Q9O h m.l.length (Kaq _) _ ?_);rw [List.getD_eq_getElem?_getD,List.getElem?_eq_getElem (by omega)];exact List.getElem_mem _
 ·dsimp only
  rw [Q2Y _ _ _ (by omega),Qfk];unfold Q10;rw [if_pos ⟨Q1y _ _,Q1y _ _⟩];exact Q4H 8 (fun _ _=> rfl)
theorem Qc8 {m:Jm} {a i g:Int} (h:Q3C m a i g=true):Q0l m.key m.l m.safe=true∧Q0l (Q3D m a i g).key (Q3D m a i g).l (Q3D m a i g).safe=true∧Qhu (Q0F m) a i g=true∧QaP (Q0F m) a i g=Q0F (Q3D m a i g)∧(Q3D m a i g).safe=((Q3D m a i g).l.length:Int)∧1≤(Q0F (Q3D m a i g)).ring.length∧(∀j,j < (Q0F (Q3D m a i g)).ring.length→((Q0F (Q3D m a i g)).ring.getD j []).length=8):=by
 unfold Q3C at h;rw [Bool.and_eq_true] at h;obtain ⟨s,h2⟩:=h
 have z:Q3D m a i g=⟨m.key,m.l++[(a,i,g)],(m.l.length:Int)+1⟩:=by unfold Q3D;rw [if_pos s,if_pos h2]
 unfold Qea at s;rw [Bool.and_eq_true] at s;obtain ⟨d,t⟩:=s;unfold Q8h at h2;rw [Bool.and_eq_true] at h2;obtain ⟨E,k⟩:=h2
 have G:m.l.length < 100:=by simpa using k
 obtain ⟨v,b⟩:=Option.isSome_iff_exists.1 E;have F:=Q0W d;have q:=Qcp (Q1W d) t b
 have f:Q0l m.key (m.l++[(a,i,g)]) ((m.l.length:Int)+1)=true:=by
  unfold Q0l;simp only [Bool.and_eq_true,decide_eq_true_eq];refine ⟨⟨⟨⟨F.1, ?_⟩, ?_⟩, ?_⟩,q⟩
  ·rw [List.length_append];simp;omega
  ·omega
  ·rw [List.length_append];simp
 have r:Q0f (m.l++[(a,i,g)]) (m.l.length+1)=v:=by
  have u:Q18 (m.l++[(a,i,g)]) (m.l.length+1)=Q5O (Q18 m.l m.l.length) (a,i,g):=by
   rw [Q2M (by simp),QdL _ (Kaq _)]
   congr 1
   simp
  obtain ⟨I,n⟩:=Option.isSome_iff_exists.1 (Q1W d)
  have x:Q0f m.l m.l.length=I:=by unfold Q0f;rw [n];rfl
  rw [x] at b;unfold Q0f;rw [u,n];unfold Q5O;simp [t,b]
 have w:Q0F m=⟨m.key,Q0f m.l m.l.length,Q1c m.key (Q1q m.l m.l.length)⟩:=by unfold Q0F;rw [if_pos d]
 have c:(m.l++[(a,i,g)]).length=m.l.length+1:=by rw [List.length_append];rfl
 have A:Q0F ⟨m.key,m.l++[(a,i,g)],(m.l.length:Int)+1⟩=⟨m.key,v,(Q2y m.key v::Q1c m.key (Q1q m.l m.l.length)).take 3⟩:=by
  unfold Q0F;dsimp only;rw [if_pos f,c,r]
  congr 1
  show Q1c m.key (Q1q (m.l++[(a,i,g)]) (m.l.length+1))=_
  have y:Q1q (m.l++[(a,i,g)]) (m.l.length+1)=(Q0f (m.l++[(a,i,g)]) (m.l.length+1)::Q1q (m.l++[(a,i,g)]) m.l.length).take 3:=rfl;rw [y,r,Qcq _ (Kaq _)];unfold Q1c;rw [List.map_take,List.map_cons]
 have p:=Q42 d
 have D:Qhu (Q0F m) a i g=true:=by
  unfold Qhu;rw [p,t,w];dsimp only;rw [b]
  rfl
 rw [z];refine ⟨d,f,D, ?_, ?_, ?_⟩
 ·rw [A]
  unfold QaP;rw [if_pos (by rw [p,t];rfl),w];dsimp only;rw [b]
 ·dsimp only;rw [c];simp
 ·have H:=Q42 (m:=⟨m.key,m.l++[(a,i,g)],(m.l.length:Int)+1⟩) f
  obtain ⟨_,_,B,_,C⟩:=Q1e H;exact ⟨B,fun j d=> (Q6T (C j d)).1⟩
def Q7i (out:List Int) (x:Int):List Int:=if out.contains x=true then out else out++[x]
def Q2e (out l:List Int):List Int:=l.foldl Q7i out
def Q1R (R:List (List (List Int))) (b:Nat):List Int:=R.foldl (fun out t=> Q2e out (t.getD b [])) []
def Q6L (m:Pm) (b:Int):List Int:=if (Q1F m && decide (0≤b) && decide (b < 8))=true then Q1R m.ring b.toNat else []
theorem Q7G (a l:List Int) (k:Nat) (h:k < l.length):Q2e a (l.take (k+1))=Q7i (Q2e a (l.take k)) (l.getD k 0):=by
 unfold Q2e;rw [List.take_succ_eq_append_getElem h,List.foldl_append,List.getD_eq_getElem?_getD,List.getElem?_eq_getElem h]
 rfl
theorem Q8p (R:List (List (List Int))) (b i:Nat) (h:i < R.length):Q1R (R.take (i+1)) b=Q2e (Q1R (R.take i) b) ((R.getD i []).getD b []):=by
 unfold Q1R;rw [List.take_succ_eq_append_getElem h,List.foldl_append,List.getD_eq_getElem?_getD (l:=R),List.getElem?_eq_getElem h]
 rfl
theorem Qep {l:List Int} {k:Nat} {x:Int} (h:k < l.length) (e:l.getD k 0=x):l.contains x=true:=by
 rw [List.contains_iff_mem,←e,List.getD_eq_getElem?_getD,List.getElem?_eq_getElem h];exact List.getElem_mem h
theorem QgD {l:List Int} {x:Int} (h:∀j,j < l.length→l.getD j 0≠x):l.contains x=false:=by
 rw [Bool.eq_false_iff];intro a;rw [List.contains_iff_mem] at a;obtain ⟨j,b,e⟩:=List.getElem_of_mem a;exact h j b (by rw [List.getD_eq_getElem?_getD,List.getElem?_eq_getElem b];exact e)
theorem Qab {out:List Int} {x:Int} (h:out.contains x=true):Q7i out x=out:=by unfold Q7i;rw [if_pos h]
theorem Qc4 {out:List Int} {x:Int} (h:out.contains x=false):Q7i out x=out++[x]:=by unfold Q7i;rw [if_neg (by rw [h];decide)]
theorem QeJ {l:List Int} {x:Int} {k:Nat} (h:∀j,j < k→l.getD j 0≠x) (h2:l.getD k 0≠x):∀j,j < k+1→l.getD j 0≠x:=fun j hj=> by
 by_cases e:j=k
 ·subst e;exact h2
 ·exact h j (by omega)
theorem Qex {w:World} {x:Int} {T:TypeId}:RdL Q1P (w.alloc (.cells #[.int .i64 x] T)).heap.size (w.alloc (.cells #[.int .i64 x] T)) (some ⟨w.heap.size,0,none⟩) [x]:=
 .inr ⟨w.heap.size,0,rfl,by simp,fun i hi j b=> by
  have a:i=0:=by simpa using hi
  subst a
  match j,b with
  |0,_=> simp [Q1P]⟩
theorem Qei (o:Option Addr) (c:Nat) (l:List Int) (x:Int) (w:World) (g:RdI w.heap.size w o l) (s:l.length≤1048576):
  Calls Tryz.prog 104 #[.slice o l.length c,.int .i64 x] w fun e p=> e=.returned (.bool (l.contains x))∧p=w:=by
 go_enter Tryz.func104,Tryz.ntmps104;go_wp2
 go_loopw [5] (fun i wr=> ∃k:Nat,k≤l.length∧i=.int .i64 k∧wr=w∧Hid (∀j,j < k→l.getD j 0≠x))
  (fun i _=> l.length - (intOf i).toNat)
 case atStart=> exact ⟨0,Kcq _,rfl,rfl,fun j h=> absurd h (Nat.not_lt_zero _)⟩
 case round=>
  obtain ⟨k,r,rfl,rfl,d⟩:=hrel
  by_cases hlt:k < l.length
  ·rcases g with g|⟨b,off,rfl,q,a⟩
   ·subst g;simp at hlt
   have m:=RdL.int a k hlt;clear a
   have t:(k:Int) < (l.length:Int):=by omega
   by_cases hx:l.getD k 0=x
   ·have f:=Q01 (Qep hlt hx)
    rw [hx] at m;clear hx d;go_wp2;go_ret;exact ⟨by rw [f.out];rfl,rfl⟩
   ·have f:=Q01 (QeJ d.out hx)
    obtain ⟨y,n⟩:∃y,l.getD k 0=y:=⟨_,rfl⟩;rw [n] at m hx;clear n d;go_wp2;go_roundw
    case rel=> exact ⟨k+1,by omega,by go_num,by trivial,f.out⟩
    case measure=> simp [intOf];omega
  ·have e:k=l.length:=by omega
   subst e;have f:=Q01 (QgD d.out);clear d;go_wp2;go_ret;exact ⟨by rw [f.out];rfl,rfl⟩
theorem Qf1 (o:Option Addr) (c:Nat) (l:List Int) (x:Int) (w:World) (g:RdI w.heap.size w o l) (u:l.length≤1048576):
  Calls Tryz.prog 176 #[.slice o l.length c,.int .i64 x] w fun e q=> ∃r:Int,e=.returned (.int .i64 r)∧decide (0≤r)=l.contains x∧q=w:=by
 go_enter Tryz.func176,Tryz.ntmps176;go_wp2
 go_loopw [8] (fun i wr=> ∃k:Nat,k≤l.length∧i=.int .i64 k∧wr=w∧Hid (∀j,j < k→l.getD j 0≠x))
  (fun i _=> l.length - (intOf i).toNat)
 case atStart=> exact ⟨0,Kcq _,rfl,rfl,fun j h=> absurd h (Nat.not_lt_zero _)⟩
 case round=>
  obtain ⟨k,t,rfl,rfl,d⟩:=hrel
  by_cases hlt:k < l.length
  ·rcases g with g|⟨b,off,rfl,s,a⟩
   ·subst g;simp at hlt
   have m:=RdL.int a k hlt;clear a
   have v:(k:Int) < (l.length:Int):=by omega
   by_cases hx:l.getD k 0=x
   ·have f:=Q01 (Qep hlt hx)
    rw [hx] at m;clear hx d;go_wp2;go_ret;exact ⟨(k:Int),rfl,by rw [f.out];simp,rfl⟩
   ·have f:=Q01 (QeJ d.out hx)
    obtain ⟨y,n⟩:∃y,l.getD k 0=y:=⟨_,rfl⟩;rw [n] at m hx
    have p:¬x=y:=fun e=> hx e.symm
    clear n d;go_wp2;go_roundw
    case rel=> exact ⟨k+1,by omega,by go_num,by trivial,f.out⟩
    case measure=> simp [intOf];omega
  ·have e:k=l.length:=by omega
   subst e;have f:=Q01 (QgD d.out);clear d;go_wp2;go_ret;exact ⟨-1,rfl,by rw [f.out];rfl,rfl⟩
theorem Qav (o:Option Addr) (c:Nat) (l:List Int) (x:Int) (w:World) (b:RdI w.heap.size w o l) (g:l.length≤1048576):
  Calls Tryz.prog 145 #[.slice o l.length c,.int .i64 x] w fun e h=> e=.returned (.bool (l.contains x))∧h=w:=by
 have a:=Q01 (Qf1 o c l x w b g);clear b;go_enter Tryz.func145,Tryz.ntmps145;go_wp2_with fail;refine a.out.mono ?_;rintro e i ⟨r,rfl,d,rfl⟩;have f:=Q01 d;clear d a;go_wp2;go_ret;exact ⟨by rw [←f.out];rfl,rfl⟩
theorem Q7P (key:Int) (o:Option Addr) (nb cap:Nat) (oR:Option Addr) (cR:Nat) (a:List (List (List Int))) (n:Nat) (X:n=a.length) (b:Nat) (ah:b < 8) (w:World) (hG:RiR 0 w.heap.size w (.slice oR n cR) a) (au:n≤3) (h8:∀i,i < a.length→(a.getD i []).length=8) (h2:∀i,i < a.length→((a.getD i []).getD b []).length≤2):
  Calls Tryz.prog 51 #[plv key (.slice o nb cap) (.slice oR n cR),.int .i64 (b:Int)] w fun e w'=> ∃v,e=.returned v∧Q8j w' w.heap.size v (Q1R a b)∧Below w.heap.size w w':=by
 have M:=Q01 X;have HG:=Q01 hG;have H8:=Q01 h8;have H2:=Q01 h2;clear X hG h8 h2
 have al:(b:Int) < 8:=by omega
 obtain ⟨A,G⟩:∃W,(w.alloc (.cells #[.int .i64 key,.slice o nb cap,.slice oR n cR] 29))=W:=⟨_,rfl⟩;have l:=alb0v0v1 G;have J:=Q01 l;clear l;have zz:=alz0v0v1 G
 have z2:A.cell? ⟨w.heap.size,2,none⟩=some (.slice oR n cR):=by rw [←G];simp [go_sem]
 go_enter Tryz.func51,Tryz.ntmps51;go_wp2
 go_loopw [5,6] (fun ov iv wr=> ∃i:Nat,i≤n∧iv=.int .i64 (i:Int)∧Hid (Q8j wr A.heap.size ov (Q1R (a.take i) b))∧(Q1R (a.take i) b).length≤2 * i∧Hid (Below A.heap.size A wr))
  (fun _ iv _=> n - (intOf iv).toNat)
 case atStart=> exact ⟨0,Kcq _,rfl,World.ownsRow_nil _ _ _ _,by simp [Q1R],Below.refl _ _⟩
 case round=>
  rename World=> wr
  rename_i ov _
  obtain ⟨i,aq,rfl,N,hL,t⟩:=hrel;have ak:=bC t.out z2 zz;have d:=Q01 (J.out.trans (t.out.mono J.out.size))
  by_cases hlt:i < n
  ·have an:(i:Int) < (n:Int):=by omega
   have s:i < a.length:=by rw [←M.out];exact hlt
   obtain ⟨b1,off,u,rfl,ai,j,I⟩:=RiRows.at HG.out (Kaq _) i s;obtain ⟨o3,c3,rfl,_⟩:=RiT.rd I;obtain ⟨b2,ao,u2,e2,R,B,C⟩:=RiRows.at I (Kaq _) b (by rw [H8.out i s];exact ah);subst e2;obtain ⟨o9,c9,rfl,Z⟩:=RiV.open C;rw [H8.out i s] at j;have aj:=bC d.out j ai;have H:=bC d.out B R;have O:=Q01 Z;have ac:=H2.out i s;have D:=Q01 (Q8p a b i s);clear j B C Z I;obtain ⟨row,ab⟩:∃row,(a.getD i []).getD b []=row:=⟨_,rfl⟩;rw [ab] at H O ac D;clear ab;obtain ⟨x,T⟩:∃q,Q1R (a.take i) b=q:=⟨_,rfl⟩
   rw [T] at N hL D;clear T;obtain ⟨m,hm⟩:∃r,row.length=r:=⟨_,rfl⟩;rw [hm] at H ac;have HM:=Q01 hm;clear hm;go_wp2
   go_loopw [5,8] (fun ov kv wq=> ∃k:Nat,k≤m∧kv=.int .i64 (k:Int)∧Hid (Q8j wq A.heap.size ov (Q2e x (row.take k)))∧(Q2e x (row.take k)).length≤2 * i+k∧Hid (Below A.heap.size A wq))
    (fun _ kv _=> m - (intOf kv).toNat)
   case atStart=> exact ⟨0,Kcq _,rfl,N.out,by simpa [Q2e] using hL,t.out⟩
   case round=>
    rename World=> wq
    rename_i aw _
    obtain ⟨k,ar,rfl,g,F,f⟩:=hrel;clear N t ak d aj H;have d:=Q01 (J.out.trans (f.out.mono J.out.size))
    by_cases hlk:k < m
    ·have am:(k:Int) < (m:Int):=by omega
     have z:k < row.length:=by rw [HM.out];exact hlk
     rcases O.out with hh|⟨b3,ad,rfl,ag,p⟩
     ·rw [hh] at z;exact absurd z (Nat.not_lt_zero _)
     have U:=bC d.out (RdL.int p k z) ag;have c:=Q01 (Q7G x row k z);clear p;obtain ⟨y,hy⟩:∃y,row.getD k 0=y:=⟨_,rfl⟩;rw [hy] at U c;clear hy;obtain ⟨E,j⟩:∃q,Q2e x (row.take k)=q:=⟨_,rfl⟩;rw [j] at g F c;clear j;obtain ⟨oo,co,e5,aa⟩:=ownL.open (L:=Q1P) g.out;subst e5;have HH:=Q01 (Qei oo co E y wq aa (by omega));clear aa;go_wp2_with fail;refine HH.out.mono ?_;rintro e w4 ⟨rfl,rfl⟩;clear HH
     cases hh:E.contains y with
     |true=>
      have P:=Q01 (Qab hh);go_wp2;go_roundw
      case rel=> exact ⟨k+1,by omega,by go_num,by rw [c.out,P.out];exact g.out,by rw [c.out,P.out];omega,f.out⟩
      case measure=> simp [intOf];omega
     |false=>
      have P:=Q01 (Qc4 hh);have av:=f.out.size;have HA:=Q01 (World.ownsRow.alloc g.out (.cells #[.int .i64 y] 3));have ap:(w4.alloc (.cells #[.int .i64 y] 3)).cell? ⟨b3,ad+k,none⟩=some (.int .i64 y):=bC ((Below.refl _ _).alloc (Kaq _) _) U (by omega);go_wp2_with (first|(at_builtin;refine Q09 QgY rfl (.tmp 37) (.tmp 42) rfl A.heap.size _ E rfl HA.out (some ⟨w4.heap.size,0,none⟩) 1 _ [y] 1 rfl rfl (by simp) Qex (by simp;omega) (by simp;omega) ?_));intro v5 w5 Y V _;have ae:=Q01 ((f.out.alloc f.out.size _).grown V (by simp;omega) (fun k h=> (HA.out.lt k h).1))
      have af:=Q01 Y;clear V Y;go_wp2;go_roundw
      case rel=> exact ⟨k+1,by omega,by go_num,by rw [c.out,P.out];exact af.out,by rw [c.out,P.out,List.length_append];simp;omega,ae.out⟩
      case measure=> simp [intOf];omega
    ·have e:k=m:=by omega
     subst e;rw [←HM.out,List.take_length,←D.out] at g F;go_wp2;go_roundw
     case rel=> exact ⟨i+1,by omega,by go_num,g.out,by rw [HM.out] at F;omega,f.out⟩
     case measure=> simp [intOf];omega
  ·have e:i=n:=by omega
   subst e;rw [M.out,List.take_length] at N;go_wp2;go_ret;exact ⟨_,rfl,Q04 N.out J.out.size,d.out⟩
theorem Q40 {ll:List (List Int)} (h:Q16 ll=true):ll.length=8∧∀b,b < 8→Q0I (ll.getD b [])=true:=by
 unfold Q16 at h;simp only [Bool.and_eq_true,decide_eq_true_eq,List.all_eq_true,List.mem_range] at h;exact ⟨h.1,h.2⟩
theorem Q6b (v:Value) (m:Pm) (q:Int) (w:World) (B:Q60 w.heap.size w v m) (J:Q2f m):
  Calls Tryz.prog 13 #[v,.int .i64 q] w fun e D=> ∃v',e=.returned v'∧Q8j D w.heap.size v' (Q6L m q)∧Below w.heap.size w D:=by
 have H:=Q01 B;obtain ⟨N,O,rfl,p,z⟩:=B;obtain ⟨o,c,rfl,r⟩:=p.open;obtain ⟨C,A,rfl⟩:=RiR.len z;have u:=Q01 z;clear p r z;obtain ⟨I,g⟩:∃W,(w.alloc (.cells #[.int .i64 m.key,.slice o m.l.length c,.slice C m.ring.length A] 29))=W:=⟨_,rfl⟩;have f:=alb0v0v1 g;have a:=Q01 f;clear f;have s:=alz0v0v1 g;obtain ⟨E,F,G⟩:=alc3v0v1 g;have k:=Q01 (Q9e _ m I ((H.out.kept a.out (Kaq _)).le a.out.size) J);have d:=Q01 (show Q6L m q=if (Q1F m && decide (0≤q) && decide (q < 8))=true then Q1R m.ring q.toNat else [] from rfl);go_enter Tryz.func13,Tryz.ntmps13
 go_wp2_with fail;refine k.out.mono ?_;rintro e L ⟨rfl,h⟩;replace E:=bC h E s;replace F:=bC h F s;replace G:=bC h G s;replace s:=Kbq s h.size;replace a:=Q01 (a.out.trans (h.mono a.out.size));clear h k
 cases hp:Q1F m with
 |false=>
  rw [hp] at d;go_wp2;go_ret;exact ⟨_,rfl,by rw [d.out];exact World.ownsRow_nil _ _ _ _,a.out⟩
 |true=>
  rw [hp] at d;have t:=Q01 (Q1e hp);clear hp
  by_cases h0:q < 0
  ·go_wp2
   go_ret;exact ⟨_,rfl,by rw [d.out,if_neg (by simp;omega)];exact World.ownsRow_nil _ _ _ _,a.out⟩
  by_cases h8:8≤q
  ·go_wp2
   go_ret;exact ⟨_,rfl,by rw [d.out,if_neg (by simp;omega)];exact World.ownsRow_nil _ _ _ _,a.out⟩
  ·obtain ⟨b,rfl⟩:∃b:Nat,q=(b:Int):=⟨q.toNat,by omega⟩
   have n:b < 8:=by omega
   have j:=Q01 (Q7P m.key o m.l.length c C A m.ring m.ring.length rfl b n L (RiR.mon.go (RiR.stp.go u.out (Stp.of (lo:=0) (hi:=0) a.out) (.inl (Kcq _))) (Kaq _) a.out.size) t.out.2.2.2.1 (fun i hi=> (Q40 (t.out.2.2.2.2 i hi)).1) (fun i hi=> Q72 ((Q40 (t.out.2.2.2.2 i hi)).2 b n)));go_wp2_with fail;refine j.out.mono ?_;rintro e P ⟨M,rfl,y,x⟩;clear j;go_wp2;go_ret;exact ⟨_,rfl,by rw [d.out,if_pos (by simp;omega)];exact Q04 y a.out.size,a.out.trans (x.mono a.out.size)⟩
structure JInv (k B R C:Nat) (w0 wr:World) (key:Int) (cs:List Cd) (o:Option Addr) (c:Nat):Prop where
 box:wr.heap[B]? =some (.cells #[.int .i64 key,.slice o cs.length c,.int .i64 0] 25 (0,0))
 res:wr.heap[R]? =some (.cells #[.int .i64 0,.slice none 0 0,.int .i64 0] 25 (0,0))
 own:Qcb wr C (.slice o cs.length c) cs
 dr:Dr k w0 wr
theorem JInv.draw {k B R C:Nat} {b wr x:World} {key:Int} {cs:List Cd} {o:Option Addr} {c:Nat} (h:JInv k B R C b wr key cs o c) (d:isCur k x) (a:wr.grownBy x (some k)) (j:k < b.heap.size) (i:b.heap.size≤R) (f:R < B) (g:B < C):JInv k B R C b x key cs o c:=
 ⟨Q0a a (Array.getElem?_eq_some_iff.1 h.box).1 (by omega) h.box,Q0a a (Array.getElem?_eq_some_iff.1 h.res).1 (by omega) h.res,Q3y h.own a (by omega),h.dr.step d a⟩
theorem JInv.below {k B R C:Nat} {b wr x:World} {key:Int} {cs:List Cd} {o:Option Addr} {c:Nat} (h:JInv k B R C b wr key cs o c) (a:Below wr.heap.size wr x) (d:k < b.heap.size):JInv k B R C b x key cs o c:=
 ⟨(a.block _ (Array.getElem?_eq_some_iff.1 h.box).1).trans h.box,(a.block _ (Array.getElem?_eq_some_iff.1 h.res).1).trans h.res,Q03 h.own a,h.dr.below d (a.mono h.dr.gr.size)⟩
theorem Qfa (key:Int) (o:Option Addr) (cap:Nat) (l:List Bk) (d:Option Addr) (h:Nat) (a:List Hd) (k i g:Int) (w:World) (y:Q1A key=true) (s:Q0c l=true) (x:Q0J k i g=true) (b:l.length≤100) (r:RdK w.heap.size w o l) (v:RdL Q0H w.heap.size w d a) (p:d=none→h=0) (j:a.length≤3):
  Calls Tryz.prog 95 #[plv key (.slice o l.length cap) (.slice d a.length h),cmd k i g] w fun e q=> ∃u t c2 f A c,e=.returned (.tuple #[plv key (.slice u t c2) (.slice f A c),.bool (doL l k i g).isSome])∧Below w.heap.size w q:=by
 cases hm:doL l k i g with
 |none=>
  refine (Qbk key o cap l d a.length h k i g w s hm b r).mono ?_;rintro e q ⟨rfl,n⟩;exact ⟨_,_,_,_,_,_,rfl,n⟩
 |some m=>
  refine (Q6Y key o cap l d h a k i g m w y s x hm b r v p j).mono ?_;rintro e q ⟨u,c2,f,t,c,C,B,z,rfl,_,_,_,_,_,n⟩;exact ⟨_,_,_,_,_,_,rfl,n⟩
theorem QfR (key:Int) (o:Option Addr) (cap:Nat) (cs:List Cd) (l:List Bk) (n:Nat) (r:n=cs.length) (w:World) (hs:Q0f cs cs.length=l) (k:RdC w.heap.size w o cs) (p:Q1A key=true) (q:cs.length≤100) (c:(Q18 cs cs.length).isSome=true):
  Calls Tryz.prog 43 #[.int .i64 key,.slice o n cap] w fun e b=> ∃g h d f a,e=.returned (plv key (.slice g l.length h) (.slice d a.length f))∧RdK b.heap.size b g l∧RdL Q0H b.heap.size b d a∧(d=none→f=0)∧a.length≤3∧Below w.heap.size w b:=by
 subst hs r;refine (Q4r key o cap cs w k p q c).mono ?_;rintro e b ⟨g,h,d,f,a,rfl,i,h2,_,j,m⟩;exact ⟨g,h,d,f,a,rfl,ownL.rds (L:=Q1b) i,ownL.rds (L:=Q0H) h2,Qin h2,j,m⟩
theorem Qiw {a W:World} {B:Nat} {x y z f:Value} (c:Below a.heap.size a W) (b:a.heap.size≤B):∃B',Value.pointer (some ⟨B,0,none⟩)=.pointer (some ⟨B',0,none⟩)∧f=f∧Hid (Below a.heap.size a (setP W B x y z)):=⟨B,rfl,rfl,Q0A c b _ _ _⟩
theorem Qih {a W:World} {x y z f:Value} {T:TypeId} (b:Below a.heap.size a W):∃B',Value.pointer (some ⟨W.heap.size,0,none⟩)=.pointer (some ⟨B',0,none⟩)∧f=f∧Hid (Below a.heap.size a (W.alloc (.cells #[x,y,z] T))):=⟨_,rfl,rfl,b.alloc b.size _⟩
theorem Qfz {w a:World} {c:Array Value} {T:TypeId} (b:Below (w.alloc (.cells c T)).heap.size (w.alloc (.cells c T)) a):a.heap[w.heap.size]? =some (.cells c T (0,0)):=
 (b.block w.heap.size (by simp)).trans (World.alloc_heap_new w (.cells c T))
theorem Qfb {w a:World} {c:Array Value} {T:TypeId} (b:Below (w.alloc (.cells c T)).drew.heap.size (w.alloc (.cells c T)).drew a):a.heap[w.heap.size]? =some (.cells c T (0,0)):=
 (b.block w.heap.size (by simp)).trans (World.alloc_heap_new w (.cells c T))
theorem Q7H (k:Nat) (w:World) (hc:isCur k w) (hk:k < w.heap.size):
  Calls Tryz.prog 133 #[.pointer (some ⟨k,0,none⟩)] w fun e w'=> ∃v m,e=.returned v∧InJm w.heap.size w'.heap.size w' v m∧Q0l m.key m.l m.safe=true∧m.l.length≤10∧Dr k w w':=by
 obtain ⟨W0,ao⟩:∃W,w.alloc (.cells #[.int .i64 0,.slice none 0 0,.int .i64 0] 25)=W:=⟨_,rfl⟩;have bc:=alb0v0v1 ao;have aQ:=Q01 (show Dr k w W0 from ⟨hc.below (bc.mono hk),by rw [←ao];exact Q0v w _ k⟩);have a9:Hid _:=alx0v0v1 ao;have ai:=alz0v0v1 ao;clear bc hc;go_enter Tryz.func133,Tryz.ntmps133;go_wp2_with fail;refine (Q0o k 50 W0 aQ.out.cur (by decide) (by decide)).mono ?_;rintro e M ⟨key,rfl,bN,bA,be,ar⟩;have a2:=Q01 (aQ.out.step be ar);have ba:=Q01 (Q0a ar ai (by omega) a9.out);have y:w.heap.size < M.heap.size:=Kbq ai ar.size
 have T:=Q01 (show Q1A key=true by unfold Q1A;simp;omega);clear be ar a9 aQ ai;have aa:Below M.heap.size M (M.alloc (.cells #[.int .i64 key,.slice none 0 0,.int .i64 0] 25)):=(Below.refl _ _).alloc (Kaq _) _;have O:Hid ((M.alloc (.cells #[.int .i64 key,.slice none 0 0,.int .i64 0] 25)).heap[M.heap.size]? =some (.cells #[.int .i64 key,.slice none 0 0,.int .i64 0] 25 (0,0))):=World.alloc_heap_new M _;have bb:=Q01 ((aa.block _ y).trans ba.out);have aR:=Q01 (a2.out.below hk (aa.mono (Nat.le_of_lt y)))
 have bv:M.heap.size < ((M.alloc (.cells #[.int .i64 key,.slice none 0 0,.int .i64 0] 25))).heap.size:=by simp
 have a7:Hid (Qcb (M.alloc (.cells #[.int .i64 key,.slice none 0 0,.int .i64 0] 25)) (M.heap.size+1) (.slice none 0 0) []):=World.ownsRow_nil _ _ _ _
 have bp:Hid (((M.alloc (.cells #[.int .i64 key,.slice none 0 0,.int .i64 0] 25))).heap.size=M.heap.size+1):=by unfold Hid;simp
 clear aa ba a2;go_wp2_with fail;generalize (M.alloc (.cells #[.int .i64 key,.slice none 0 0,.int .i64 0] 25))=W2 at *;refine (Q0o k 10 W2 aR.out.cur (by decide) (by decide)).mono ?_;rintro e w3 ⟨n',rfl,bu,bD,bf,bh⟩;obtain ⟨n,rfl⟩:=Int.eq_ofNat_of_zero_le bu;have aT:=Q01 (JInv.draw (C:=M.heap.size+1) (⟨O.out,bb.out,a7.out,aR.out⟩:JInv k M.heap.size w.heap.size (M.heap.size+1) w W2 key [] none 0) bf bh hk (Kaq _) y (Nat.lt_succ_self _));clear bf bh O bb a7 aR bv bp;obtain ⟨B,hB⟩:∃B,M.heap.size=B:=⟨_,rfl⟩;simp only [hB] at aT y ⊢;clear hB;go_wp2
 go_loopw [5] (fun iv wr=> ∃(i:Nat) (cs:List Cd) (I:Option Addr) (H:Nat),i≤n∧iv=.int .i64 (i:Int)∧Hid (JInv k B w.heap.size (B+1) w wr key cs I H)∧cs.length≤i∧Hid ((Q18 cs cs.length).isSome=true))
  (fun iv _=> n - (intOf iv).toNat)
 case atStart=> exact ⟨0,[],none,0,Kcq _,rfl,aT.out,Kaq _,rfl⟩
 case round=>
  rename World=> wr
  obtain ⟨i,cs,I,H,bM,rfl,HJ,bL,N⟩:=hrel;clear aT;have a4:=Q01 (HJ.out.dr.lt hk)
  by_cases hlt:i < n
  ·have bB:(i:Int) < (n:Int):=by omega
   go_wp2_with fail;refine (Q7D k wr HJ.out.dr.cur a4.out).mono ?_;rintro e r ⟨a,J,g,rfl,bk,hd⟩;have a8:=Q01 bk;have aS:=Q01 (HJ.out.draw hd.cur hd.gr hk (Kaq _) y (Nat.lt_succ_self _));clear bk hd HJ a4;have bK:B < r.heap.size:=(Array.getElem?_eq_some_iff.1 aS.out.box).1;have aa:Below r.heap.size r (r.alloc (.cells #[.int .i64 a,.int .i64 J,.int .i64 g] 77)):=(Below.refl _ _).alloc (Kaq _) _
   have O:Hid ((r.alloc (.cells #[.int .i64 a,.int .i64 J,.int .i64 g] 77)).heap[r.heap.size]? =some (.cells #[.int .i64 a,.int .i64 J,.int .i64 g] 77 (0,0))):=World.alloc_heap_new r _;have am:=Q01 (aS.out.below aa hk)
   have D:r.heap.size < ((r.alloc (.cells #[.int .i64 a,.int .i64 J,.int .i64 g] 77))).heap.size:=by simp
   clear aa aS;obtain ⟨l,hl⟩:∃l,Q0f cs cs.length=l:=⟨_,rfl⟩;have HL:=Q01 hl
   have a5:=Q01 (show Q0c l=true∧l.length≤100 by
    have h:=Q4m (key:=key) (cs:=cs) (safe:=0) (by unfold Q0l;simp only [Bool.and_eq_true,decide_eq_true_eq];exact ⟨⟨⟨⟨T.out,by omega⟩,by omega⟩,by omega⟩,N.out⟩);rw [hl] at h
    exact h)
   obtain ⟨m,hm⟩:∃m,m=cs.length:=⟨_,rfl⟩;have HM:=Q01 hm
   have aP:Hid ((r.alloc (.cells #[.int .i64 a,.int .i64 J,.int .i64 g] 77)).heap[B]? =some (.cells #[.int .i64 key,.slice I m H,.int .i64 0] 25 (0,0))):=by unfold Hid;rw [hm];exact am.out.box
   have ad:=Q01 (fun W (G:Below ((r.alloc (.cells #[.int .i64 a,.int .i64 J,.int .i64 g] 77))).heap.size (r.alloc (.cells #[.int .i64 a,.int .i64 J,.int .i64 g] 77)) W)=> QfR key I H cs l m hm W hl (((ownL.rds (L:=Q3K) am.out.own).kept G (Kaq _)).le G.size) T.out (by omega) N.out);have al:=Q01 (fun o1 c1 ak ae y W rk rr cr af=> Qfa key o1 c1 l ak ae y a J g W T.out a5.out.1 a8.out a5.out.2 rk rr cr af)
   have bt:m≤i:=by omega
   clear hl hm;obtain ⟨t,ht⟩:∃t,(doL l a J g).isSome=t:=⟨_,rfl⟩;rw [ht] at al;have HT:=Q01 ht;clear ht;go_upto_region 7 with fail;generalize (r.alloc (.cells #[.int .i64 a,.int .i64 J,.int .i64 g] 77))=X2 at *
   have P:B < X2.heap.size:=by omega
   have z0:X2.cell? ⟨B,0,none⟩=some (.int .i64 key):=Q00 aP.out 0 _ rfl;have z1:X2.cell? ⟨B,1,none⟩=some (.slice I m H):=Q00 aP.out 1 _ rfl;have u0:X2.cell? ⟨r.heap.size,0,none⟩=some (.int .i64 a):=Q00 O.out 0 _ rfl;have u1:X2.cell? ⟨r.heap.size,1,none⟩=some (.int .i64 J):=Q00 O.out 1 _ rfl;have u2:X2.cell? ⟨r.heap.size,2,none⟩=some (.int .i64 g):=Q00 O.out 2 _ rfl
   go_cut [7,8] from 21 to 30 (fun s7 s8 wx=> ∃B',s7=.pointer (some ⟨B',0,none⟩)∧s8=.bool t∧Hid (Below X2.heap.size X2 wx))
   case first=>
    go_region_held3 (fun w'=> w'.cell? ⟨B,0,none⟩=some (.int .i64 key)∧w'.cell? ⟨B,1,none⟩=some (.slice I m H)∧w'.cell? ⟨r.heap.size,0,none⟩=some (.int .i64 a)∧w'.cell? ⟨r.heap.size,1,none⟩=some (.int .i64 J)∧w'.cell? ⟨r.heap.size,2,none⟩=some (.int .i64 g)) (first|with_reducible exact ⟨U,V,X,Y,Z⟩|with_reducible exact ⟨aK,aL,aM,aN,aO⟩|with_reducible exact ⟨z0,z1,u0,u1,u2⟩|with_reducible exact ⟨Q08 U (show B < X2.heap.size by omega),Q08 V (show B < X2.heap.size by omega),Q08 X (show r.heap.size < X2.heap.size by omega),Q08 Y (show r.heap.size < X2.heap.size by omega),Q08 Z (show r.heap.size < X2.heap.size by omega)⟩|with_reducible exact ⟨Q08 U (show B < b.heap.size by omega),Q08 V (show B < b.heap.size by omega),Q08 X (show r.heap.size < b.heap.size by omega),Q08 Y (show r.heap.size < b.heap.size by omega),Q08 Z (show r.heap.size < b.heap.size by omega)⟩|go_keep) (first|(go_at_call 43;have E:=ad.out X2.drew (Below.drew (Below.refl _ _));with_reducible refine E.mono ?_;clear E;rintro e b ⟨o1,c1,ak,ae,y,rfl,aZ,a0,aX,af,G⟩;have ah:Below X2.heap.size X2 b:=Below.trans (show Below X2.heap.size X2 X2.drew from (Below.drew (Below.refl _ _))) (G.mono (by simp));have bx:X2.heap.size≤b.heap.size:=ah.size;have x:Below X2.heap.size X2 b:=ah;have aK:=(x.cell (p:=⟨B,0,none⟩) P).trans z0;have aL:=(x.cell (p:=⟨B,1,none⟩) P).trans z1;have aM:=(x.cell (p:=⟨r.heap.size,0,none⟩) D).trans u0;have aN:=(x.cell (p:=⟨r.heap.size,1,none⟩) D).trans u1;have aO:=(x.cell (p:=⟨r.heap.size,2,none⟩) D).trans u2;(try have aH:=(Array.getElem?_eq_some_iff.1 A).1);clear G)|(go_at_call 43;have E:=ad.out (X2.alloc (.cells #[.int .i64 0,.slice none 0 0,.slice none 0 0] 29)).drew (Below.drew ((Below.refl _ _).alloc (Kaq _) _));with_reducible refine E.mono ?_;clear E;rintro e b ⟨o1,c1,ak,ae,y,rfl,aZ,a0,aX,af,G⟩;have ah:Below X2.heap.size X2 b:=Below.trans (show Below X2.heap.size X2 (X2.alloc (.cells #[.int .i64 0,.slice none 0 0,.slice none 0 0] 29)).drew from (Below.drew ((Below.refl _ _).alloc (Kaq _) _))) (G.mono (by simp));have bx:X2.heap.size≤b.heap.size:=ah.size;have x:Below X2.heap.size X2 b:=ah;have aK:=(x.cell (p:=⟨B,0,none⟩) P).trans z0;have aL:=(x.cell (p:=⟨B,1,none⟩) P).trans z1;have aM:=(x.cell (p:=⟨r.heap.size,0,none⟩) D).trans u0;have aN:=(x.cell (p:=⟨r.heap.size,1,none⟩) D).trans u1;have aO:=(x.cell (p:=⟨r.heap.size,2,none⟩) D).trans u2;have A:b.heap[X2.heap.size]? =some (.cells #[.int .i64 0,.slice none 0 0,.slice none 0 0] 29 (0,0)):=(Qfb G);(try have aH:=(Array.getElem?_eq_some_iff.1 A).1);clear G)|(go_at_call 95;have E:=al.out o1 c1 ak ae y b aZ a0 aX af;with_reducible refine E.mono ?_;clear E;rintro e f ⟨o2,n2,c2,bw,n3,bq,rfl,G⟩;have R:Below b.heap.size b f:=G;have bz:b.heap.size≤f.heap.size:=R.size;have z:Below X2.heap.size X2 f:=x.trans (R.mono x.size);have U:=(z.cell (p:=⟨B,0,none⟩) P).trans z0;have V:=(z.cell (p:=⟨B,1,none⟩) P).trans z1;have X:=(z.cell (p:=⟨r.heap.size,0,none⟩) D).trans u0;have Y:=(z.cell (p:=⟨r.heap.size,1,none⟩) D).trans u1;have Z:=(z.cell (p:=⟨r.heap.size,2,none⟩) D).trans u2;(try have c:f.heap[X2.heap.size]? =some (.cells #[.int .i64 0,.slice none 0 0,.slice none 0 0] 29 (0,0)):=(R.block _ (Array.getElem?_eq_some_iff.1 A).1).trans A);(try have aI:=(Array.getElem?_eq_some_iff.1 c).1);(try have aJ:=(Array.getElem?_eq_some_iff.1 d).1);(try have av:f.cell? ⟨X2.heap.size,0,none⟩=some (.int .i64 0):=Q00 c 0 _ rfl);(try have aB:=Q02 c 0);(try have aw:f.cell? ⟨X2.heap.size,1,none⟩=some (.slice none 0 0):=Q00 c 1 _ rfl);(try have aC:=Q02 c 1);(try have ax:f.cell? ⟨X2.heap.size,2,none⟩=some (.slice none 0 0):=Q00 c 2 _ rfl);(try have aD:=Q02 c 2);(try have ay:f.cell? ⟨b.heap.size,0,none⟩=some (.int .i64 0):=Q00 d 0 _ rfl);(try have aE:=Q02 d 0);(try have az:f.cell? ⟨b.heap.size,1,none⟩=some (.slice none 0 0):=Q00 d 1 _ rfl);(try have aF:=Q02 d 1);(try have aA:f.cell? ⟨b.heap.size,2,none⟩=some (.slice none 0 0):=Q00 d 2 _ rfl);(try have aG:=Q02 d 2);clear G)|(go_at_call 95;have E:=al.out o1 c1 ak ae y (b.alloc (.cells #[.int .i64 0,.slice none 0 0,.slice none 0 0] 29)) ((aZ.kept ((Below.refl _ _).alloc (Kaq _) _) (Kaq _)).le (by simp)) ((a0.kept ((Below.refl _ _).alloc (Kaq _) _) (Kaq _)).le (by simp)) aX af;with_reducible refine E.mono ?_;clear E;rintro e f ⟨o2,n2,c2,bw,n3,bq,rfl,G⟩;have R:Below b.heap.size b f:=Below.trans (show Below b.heap.size b (b.alloc (.cells #[.int .i64 0,.slice none 0 0,.slice none 0 0] 29)) from ((Below.refl _ _).alloc (Kaq _) _)) (G.mono (by simp));have bz:b.heap.size≤f.heap.size:=R.size;have z:Below X2.heap.size X2 f:=x.trans (R.mono x.size);have U:=(z.cell (p:=⟨B,0,none⟩) P).trans z0;have V:=(z.cell (p:=⟨B,1,none⟩) P).trans z1;have X:=(z.cell (p:=⟨r.heap.size,0,none⟩) D).trans u0;have Y:=(z.cell (p:=⟨r.heap.size,1,none⟩) D).trans u1;have Z:=(z.cell (p:=⟨r.heap.size,2,none⟩) D).trans u2;(try have c:f.heap[X2.heap.size]? =some (.cells #[.int .i64 0,.slice none 0 0,.slice none 0 0] 29 (0,0)):=(R.block _ (Array.getElem?_eq_some_iff.1 A).1).trans A);have d:f.heap[b.heap.size]? =some (.cells #[.int .i64 0,.slice none 0 0,.slice none 0 0] 29 (0,0)):=(Qfz G);(try have aI:=(Array.getElem?_eq_some_iff.1 c).1);(try have aJ:=(Array.getElem?_eq_some_iff.1 d).1);(try have av:f.cell? ⟨X2.heap.size,0,none⟩=some (.int .i64 0):=Q00 c 0 _ rfl);(try have aB:=Q02 c 0);(try have aw:f.cell? ⟨X2.heap.size,1,none⟩=some (.slice none 0 0):=Q00 c 1 _ rfl);(try have aC:=Q02 c 1);(try have ax:f.cell? ⟨X2.heap.size,2,none⟩=some (.slice none 0 0):=Q00 c 2 _ rfl);(try have aD:=Q02 c 2);(try have ay:f.cell? ⟨b.heap.size,0,none⟩=some (.int .i64 0):=Q00 d 0 _ rfl);(try have aE:=Q02 d 0);(try have az:f.cell? ⟨b.heap.size,1,none⟩=some (.slice none 0 0):=Q00 d 1 _ rfl);(try have aF:=Q02 d 1);(try have aA:f.cell? ⟨b.heap.size,2,none⟩=some (.slice none 0 0):=Q00 d 2 _ rfl);(try have aG:=Q02 d 2);clear G))
    all_goals (go_wp2_with fail;go_meet)
    all_goals first
     |with_reducible exact Qiw z (show _≤X2.heap.size by omega)
     |with_reducible exact Qiw z (show _≤b.heap.size by omega)
     |with_reducible exact Qih z
   case rest=>
    obtain ⟨B9,rfl,rfl,a1⟩:=hcut;have G:=a1.out;have bO:=G.size;have aW:=Q01 ((G.block _ D).trans O.out);have ac:=Q01 (am.out.below G hk);clear G a1 O am aP z0 z1 u0 u1 u2 ad al
    cases t with
    |false=>
     go_wp2;go_roundw
     case rel=> exact ⟨i+1,cs,I,H,by omega,by go_num,ac.out,by omega,N.out⟩
     case measure=> simp [intOf];omega
    |true=>
     obtain ⟨mm,bj⟩:=Option.isSome_iff_exists.1 HT.out;have aV:=Q01 (Qcp N.out a8.out (by rw [HL.out];exact bj));clear bj
     have ab:Hid (wc.heap[B]? =some (.cells #[.int .i64 key,.slice I m H,.int .i64 0] 25 (0,0))):=by unfold Hid;rw [HM.out];exact ac.out.box
     have y1:wc.cell? ⟨B,1,none⟩=some (.slice I m H):=Q00 ab.out 1 _ rfl;have v0:wc.cell? ⟨r.heap.size,0,none⟩=some (.int .i64 a):=Q00 aW.out 0 _ rfl;have v1:wc.cell? ⟨r.heap.size,1,none⟩=some (.int .i64 J):=Q00 aW.out 1 _ rfl;have v2:wc.cell? ⟨r.heap.size,2,none⟩=some (.int .i64 g):=Q00 aW.out 2 _ rfl
     have aU:Hid (Qcb wc (B+1) (.slice I m H) cs):=by unfold Hid;rw [HM.out];exact ac.out.own
     have HA:=Q01 (World.ownsRow.alloc aU.out (.cells #[.int .i64 a,.int .i64 J,.int .i64 g] 77))
     have bs:B < wc.heap.size:=by omega
     go_wp2_with (first|(at_builtin;refine Q09 Qd9 rfl (.tmp 33) (.tmp 35) rfl (B+1) _ cs rfl HA.out (some ⟨wc.heap.size,0,none⟩) 1 _ [(a,J,g)] 1 rfl rfl (by simp) Q9c (by simp;omega) (by simp;omega) ?_));intro v8 w8 aY au _;obtain ⟨o8,c8,e8,_⟩:=ownL.open (L:=Q3K) aY;subst e8
     have a6:Hid (∀q,q≤B→¬(some q=(Value.slice I m H).ownBlock)):=fun q hq e=> by have:=(aU.out.lt q e.symm).1;omega
     have aq:Below wc.heap.size wc (wc.alloc (.cells #[.int .i64 a,.int .i64 J,.int .i64 g] 77)):=(Below.refl _ _).alloc (Kaq _) _;have aj:=(au.block B (by simp;omega) (a6.out B (Kaq _))).trans ((aq.block B bs).trans ab.out);have bl:=(au.block w.heap.size (by simp;omega) (a6.out _ (by omega))).trans ((aq.block w.heap.size (by omega)).trans ac.out.res);have bd:Below w.heap.size wc w8:=(aq.mono (by omega)).grown au (by simp;omega) (fun q h=> by have:=(aU.out.lt q h).1;omega);have a3:=Q01 (ac.out.dr.below hk bd)
     have p8:w8.cell? ⟨B,1,none⟩=some (.slice I m H):=Q00 aj 1 _ rfl;have f8:w8.frozen? ⟨B,1,none⟩=false:=Q02 aj 1;have bm:=Q01 (show JInv k B w.heap.size (B+1) w (w8.setCell ⟨B,1,none⟩ (.slice o8 (cs++[(a,J,g)]).length c8)) key (cs++[(a,J,g)]) o8 c8 from ⟨Q07 aj 1 _,Q2a bl (by omega),Q1L aY aj 1 _,a3.out.below hk ((Below.refl _ _).setCell (p:=⟨B,1,none⟩) (by exact Nat.le_of_lt y) _)⟩);clear au aY aj bl bd aq a3 y1 v0 v1 v2;go_wp2;go_roundw
     case rel=> exact ⟨i+1,cs++[(a,J,g)],o8,c8,by omega,by go_num,by have h:=bm.out;rw [List.length_append] at h;exact h,by simp;omega,aV.out⟩
     case measure=> simp [intOf];omega
  ·have e:i=n:=by omega
   subst e
   have hn:i≤10:=by omega
   obtain ⟨m,hm⟩:∃m,m=cs.length:=⟨_,rfl⟩;have HM:=Q01 hm
   have ab:Hid (wr.heap[B]? =some (.cells #[.int .i64 key,.slice I m H,.int .i64 0] 25 (0,0))):=by unfold Hid;rw [hm];exact HJ.out.box
   have z1:wr.cell? ⟨B,1,none⟩=some (.slice I m H):=Q00 ab.out 1 _ rfl
   have bt:m≤i:=by omega
   clear hm;go_wp2_with fail;refine (Q0o k ((m:Int)+1) wr HJ.out.dr.cur (by omega) (by omega)).mono ?_;rintro e w5 ⟨s,rfl,ai,bE,bg,bi⟩;have an:=Q01 (HJ.out.draw bg bi hk (Kaq _) y (Nat.lt_succ_self _))
   have ag:w5.heap[B]? =some (.cells #[.int .i64 key,.slice I m H,.int .i64 0] 25 (0,0)):=by rw [HM.out];exact an.out.box
   have ap:=Q07 ag 2 (.int .i64 s);have F:=Q2a (j:=2) (u:=.int .i64 s) an.out.res (show w.heap.size≠B by omega);have bo:=Q01 (Q1L (Q1L (Q1L (Q1L (show Qcb w5 (B+1) (.slice I m H) cs by rw [HM.out];exact an.out.own) ag 2 (.int .i64 s)) F 0 (.int .i64 key)) (Q07 F 0 (.int .i64 key)) 1 (.slice I m H)) (Q07 (Q07 F 0 (.int .i64 key)) 1 (.slice I m H)) 2 (.int .i64 s));have y2:w5.cell? ⟨B,2,none⟩=some (.int .i64 0):=Q00 ag 2 _ rfl;have bJ:w5.frozen? ⟨B,2,none⟩=false:=Q02 ag 2;have v0:(w5.setCell ⟨B,2,none⟩ (.int .i64 s)).cell? ⟨B,0,none⟩=some (.int .i64 key):=Q00 ap 0 _ rfl
   have v1:(w5.setCell ⟨B,2,none⟩ (.int .i64 s)).cell? ⟨B,1,none⟩=some (.slice I m H):=Q00 ap 1 _ rfl;have v2:(w5.setCell ⟨B,2,none⟩ (.int .i64 s)).cell? ⟨B,2,none⟩=some (.int .i64 s):=Q00 ap 2 _ rfl;have r0:(w5.setCell ⟨B,2,none⟩ (.int .i64 s)).cell? ⟨w.heap.size,0,none⟩=some (.int .i64 0):=Q00 F 0 _ rfl;have bG:(w5.setCell ⟨B,2,none⟩ (.int .i64 s)).frozen? ⟨w.heap.size,0,none⟩=false:=Q02 F 0;have r1:(w5.setCell ⟨B,2,none⟩ (.int .i64 s)).cell? ⟨w.heap.size,1,none⟩=some (.slice none 0 0):=Q00 F 1 _ rfl
   have bH:(w5.setCell ⟨B,2,none⟩ (.int .i64 s)).frozen? ⟨w.heap.size,1,none⟩=false:=Q02 F 1;have r2:(w5.setCell ⟨B,2,none⟩ (.int .i64 s)).cell? ⟨w.heap.size,2,none⟩=some (.int .i64 0):=Q00 F 2 _ rfl;have bI:(w5.setCell ⟨B,2,none⟩ (.int .i64 s)).frozen? ⟨w.heap.size,2,none⟩=false:=Q02 F 2;have bn:=Q01 (show Q0l key cs s=true by unfold Q0l;simp only [Bool.and_eq_true,decide_eq_true_eq];exact ⟨⟨⟨⟨T.out,by omega⟩,ai⟩,by have:=HM.out;omega⟩,N.out⟩);clear bg bi HJ ab ag ap F z1;go_wp2
   refine bodyPost_ret (v:=jrn key (.slice I m H) s) (by simp [results,Tryz.results133,go_sem,r0,r1,r2]) rfl ⟨_,⟨key,cs,s⟩,rfl,⟨_,rfl,InRow.mono (InRow.of bo.out) (by omega) (Kaq _)⟩,bn.out,show cs.length≤10 by omega,an.out.dr.below hk ?_⟩;exact Q0A ((Below.refl _ _).setCell (p:=⟨B,2,none⟩) (Nat.le_of_lt y) _) (Kaq _) _ _ _
structure JS (k B R C:Nat) (w0 wr:World) (key s:Int) (cs:List Cd) (o:Option Addr) (n c:Nat):Prop where
 len:n=cs.length
 box:wr.heap[B]? =some (.cells #[.int .i64 key,.slice o n c,.int .i64 s] 25 (0,0))
 res:wr.heap[R]? =some (.cells #[.int .i64 0,.slice none 0 0,.int .i64 0] 25 (0,0))
 own:Qcb wr C (.slice o n c) cs
 dr:Dr k w0 wr
theorem JS.draw {k B R C:Nat} {b wr:World} {key s:Int} {cs:List Cd} {o:Option Addr} {n c:Nat} {x:World} (h:JS k B R C b wr key s cs o n c) (i:isCur k x) (a:wr.grownBy x (some k)) (d:B≠k) (g:R≠k) (f:k < C):JS k B R C b x key s cs o n c:=
 ⟨h.len,Q0a a (Array.getElem?_eq_some_iff.1 h.box).1 d h.box,Q0a a (Array.getElem?_eq_some_iff.1 h.res).1 g h.res,Q3y h.own a f,h.dr.step i a⟩
theorem JS.below {k B R C:Nat} {b wr:World} {key s:Int} {cs:List Cd} {o:Option Addr} {n c:Nat} {x:World} (h:JS k B R C b wr key s cs o n c) (a:Below wr.heap.size wr x) (d:k < b.heap.size):JS k B R C b x key s cs o n c:=
 ⟨h.len,(a.block _ (Array.getElem?_eq_some_iff.1 h.box).1).trans h.box,(a.block _ (Array.getElem?_eq_some_iff.1 h.res).1).trans h.res,Q03 h.own a,h.dr.below d (a.mono h.dr.gr.size)⟩
theorem JS.set0 {k B R C:Nat} {a wr:World} {key s:Int} {cs:List Cd} {o:Option Addr} {n c:Nat} (h:JS k B R C a wr key s cs o n c) (f:k < a.heap.size) (b:a.heap.size≤B) (d:R≠B) (y:Int):JS k B R C a (wr.setCell ⟨B,0,none⟩ (.int .i64 y)) y s cs o n c:=
 ⟨h.len,Q07 h.box 0 _,Q2a h.res d,Q1L h.own h.box 0 _,h.dr.below f ((Below.refl _ _).setCell (p:=⟨B,0,none⟩) b _)⟩
theorem JS.set2 {k B R C:Nat} {a wr:World} {key s:Int} {cs:List Cd} {o:Option Addr} {n c:Nat} (h:JS k B R C a wr key s cs o n c) (f:k < a.heap.size) (b:a.heap.size≤B) (d:R≠B) (y:Int):JS k B R C a (wr.setCell ⟨B,2,none⟩ (.int .i64 y)) key y cs o n c:=
 ⟨h.len,Q07 h.box 2 _,Q2a h.res d,Q1L h.own h.box 2 _,h.dr.below f ((Below.refl _ _).setCell (p:=⟨B,2,none⟩) b _)⟩
theorem JS.done {k B C:Nat} {a wr:World} {key s:Int} {cs:List Cd} {o:Option Addr} {n c:Nat} (h:JS k B a.heap.size C a wr key s cs o n c) (f:k < a.heap.size) (d:a.heap.size≤C):InJm a.heap.size (setP wr a.heap.size (.int .i64 key) (.slice o n c) (.int .i64 s)).heap.size (setP wr a.heap.size (.int .i64 key) (.slice o n c) (.int .i64 s)) (jrn key (.slice o n c) s) ⟨key,cs,s⟩∧Dr k a (setP wr a.heap.size (.int .i64 key) (.slice o n c) (.int .i64 s)):=by
 have b:=Q07 h.res 0 (.int .i64 key);have i:=Q07 b 1 (.slice o n c);have g:=Q1L (Q1L (Q1L h.own h.res 0 (.int .i64 key)) b 1 (.slice o n c)) i 2 (.int .i64 s);exact ⟨⟨_,rfl,InRow.mono (InRow.of g) d (Kaq _)⟩,h.dr.below f (Q0A (Below.refl _ _) (Kaq _) _ _ _)⟩
theorem JS.push {k B R C:Nat} {d wr:World} {key s:Int} {cs:List Cd} {o:Option Addr} {n c:Nat} {f:World} {a i g:Int} {A:Option Addr} {l m:Nat} {O:Obj} (h:JS k B R C d wr key s cs o n c) (D:k < d.heap.size) (E:d.heap.size≤B) (F:R≠B) (L:d.heap.size≤C) (G:R < C) (H:l=n+1) (I:Qcb f C (.slice A l m) (cs++[(a,i,g)])) (u:(wr.alloc O).grownBy f (Value.slice o n c).ownBlock):
  f.heap[B]? =some (.cells #[.int .i64 key,.slice o n c,.int .i64 s] 25 (0,0))∧JS k B R C d (f.setCell ⟨B,1,none⟩ (.slice A l m)) key s (cs++[(a,i,g)]) A l m:=by
 have j:Below wr.heap.size wr (wr.alloc O):=(Below.refl _ _).alloc (Kaq _) _;have v:=(Array.getElem?_eq_some_iff.1 h.box).1;have w:=(Array.getElem?_eq_some_iff.1 h.res).1;have J:=j.size
 have x:¬(some B=(Value.slice o n c).ownBlock):=fun e=> by
  rcases Q1V h.own h.box (show (77:TypeId)≠25 by decide) with r|r
  ·rw [r] at e;cases e
  ·exact r e.symm
 have y:¬(some R=(Value.slice o n c).ownBlock):=fun e=> by have:=(h.own.lt R e.symm).1;omega
 have b:=(u.block B (by omega) x).trans ((j.block B v).trans h.box);have z:=(u.block R (by omega) y).trans ((j.block R w).trans h.res);have t:Below d.heap.size wr f:=(j.mono h.dr.gr.size).grown u (by have:=h.dr.gr.size;omega) (fun q e=> by have:=(h.own.lt q e).1;omega);exact ⟨b,⟨by simp [H,h.len],Q07 b 1 _,Q2a z F,Q1L I b 1 _,(h.dr.below D t).below D ((Below.refl _ _).setCell (p:=⟨B,1,none⟩) E _)⟩⟩
theorem Qbe (k:Nat) (w:World) (hc:isCur k w) (q:k < w.heap.size):
  Calls Tryz.prog 81 #[.pointer (some ⟨k,0,none⟩)] w fun e w'=> ∃v m,e=.returned v∧InJm w.heap.size w'.heap.size w' v m∧m.l.length≤11∧Dr k w w':=by
 obtain ⟨V,N⟩:∃W,w.alloc (.cells #[.int .i64 0,.slice none 0 0,.int .i64 0] 25)=W:=⟨_,rfl⟩;have ah:=alb0v0v1 N;have J:=Q01 (show Dr k w V from ⟨hc.below (ah.mono q),by rw [←N];exact Q0v w _ k⟩);have ae:Hid _:=alx0v0v1 N;have p:=alz0v0v1 N;clear ah hc;go_enter Tryz.func81,Tryz.ntmps81;go_wp2_with fail;refine (Q7H k V J.out.cur (J.out.lt q)).mono ?_;rintro e R ⟨v,⟨key,cs,s⟩,rfl,⟨vl,rfl,C⟩,_,T,z⟩;obtain ⟨o,c,e1,_⟩:=ownL.open (L:=Q3K) C.1;subst e1;dsimp only at C T ⊢;obtain ⟨n,hn⟩:∃n,cs.length=n:=⟨_,rfl⟩;rw [hn] at C T ⊢;have ag:=Q01 C.1
 have ad:=Q01 (J.out.step z.cur z.gr);have af:=Q01 (Q0a z.gr p (by omega) ae.out);have ar:V.heap.size≤R.heap.size:=z.gr.size;have U:=Q01 hn;clear z C ae J hn;have P:Below R.heap.size R (R.alloc (.cells #[.int .i64 key,.slice o n c,.int .i64 s] 25)):=(Below.refl _ _).alloc (Kaq _) _;have M:=Q01 (show JS k R.heap.size w.heap.size V.heap.size w (R.alloc (.cells #[.int .i64 key,.slice o n c,.int .i64 s] 25)) key s cs o n c from ⟨U.out.symm,World.alloc_heap_new R _,(P.block _ (by omega)).trans af.out,Q03 ag.out P,ad.out.below q (P.mono (by omega))⟩)
 clear P af ad ag;go_wp2_with fail;generalize (R.alloc (.cells #[.int .i64 key,.slice o n c,.int .i64 s] 25))=W2 at *;obtain ⟨B,hB⟩:∃B,R.heap.size=B:=⟨_,rfl⟩;simp only [hB] at M ar ⊢
 have D:B≠k:=by omega
 have F:w.heap.size≠k:=by omega
 have aa:w.heap.size≠B:=by omega
 have ac:w.heap.size≤B:=by omega
 have E:k < V.heap.size:=by omega
 clear hB;refine (Q1t k 7 W2 M.out.dr.cur (by decide) (by decide)).mono ?_;rintro e I ⟨au,rfl,ai,ak⟩;have d:=Q01 (M.out.draw ai ak D F E);clear ai ak M
 cases au with
 |false=>
  have z0:I.cell? ⟨B,0,none⟩=some (.int .i64 key):=Q00 d.out.box 0 _ rfl;have z1:I.cell? ⟨B,1,none⟩=some (.slice o n c):=Q00 d.out.box 1 _ rfl;have z2:I.cell? ⟨B,2,none⟩=some (.int .i64 s):=Q00 d.out.box 2 _ rfl;have r0:I.cell? ⟨w.heap.size,0,none⟩=some (.int .i64 0):=Q00 d.out.res 0 _ rfl;have X:I.frozen? ⟨w.heap.size,0,none⟩=false:=Q02 d.out.res 0;have r1:I.cell? ⟨w.heap.size,1,none⟩=some (.slice none 0 0):=Q00 d.out.res 1 _ rfl;have Y:I.frozen? ⟨w.heap.size,1,none⟩=false:=Q02 d.out.res 1
  have r2:I.cell? ⟨w.heap.size,2,none⟩=some (.int .i64 0):=Q00 d.out.res 2 _ rfl;have Z:I.frozen? ⟨w.heap.size,2,none⟩=false:=Q02 d.out.res 2;have r:=Q01 (d.out.done q (Nat.le_of_lt p));clear d;go_wp2;refine bodyPost_ret (v:=jrn key (.slice o n c) s) (by simp [results,Tryz.results81,go_sem,r0,r1,r2]) rfl ⟨_,⟨key,cs,s⟩,rfl,r.out.1,show cs.length≤11 by have:=U.out;omega,r.out.2⟩
 |true=>
  go_wp2_with fail;refine (Q0o k 3 I d.out.dr.cur (by decide) (by decide)).mono ?_;rintro e w4 ⟨x,rfl,ax,ay,aj,al⟩;have f:=Q01 (d.out.draw aj al D F E);clear aj al d
  by_cases e0:x=0
  ·subst e0
   have z1:w4.cell? ⟨B,1,none⟩=some (.slice o n c):=Q00 f.out.box 1 _ rfl;go_wp2_with fail;refine (Q24 k [-1,(n:Int)+1] w4 f.out.dr.cur (f.out.dr.lt q) (by simp) (by simp)).mono ?_;rintro e i ⟨y,_,rfl,u,A⟩;have j:=f.out.draw u A D F E;have b:=j.set2 q ac aa y;have y2:i.cell? ⟨B,2,none⟩=some (.int .i64 s):=Q00 j.box 2 _ rfl;have aq:i.frozen? ⟨B,2,none⟩=false:=Q02 j.box 2;have q0:(i.setCell ⟨B,2,none⟩ (.int .i64 y)).cell? ⟨B,0,none⟩=some (.int .i64 key):=Q00 b.box 0 _ rfl
   have q1:(i.setCell ⟨B,2,none⟩ (.int .i64 y)).cell? ⟨B,1,none⟩=some (.slice o n c):=Q00 b.box 1 _ rfl;have q2:(i.setCell ⟨B,2,none⟩ (.int .i64 y)).cell? ⟨B,2,none⟩=some (.int .i64 y):=Q00 b.box 2 _ rfl;have r0:(i.setCell ⟨B,2,none⟩ (.int .i64 y)).cell? ⟨w.heap.size,0,none⟩=some (.int .i64 0):=Q00 b.res 0 _ rfl;have X:(i.setCell ⟨B,2,none⟩ (.int .i64 y)).frozen? ⟨w.heap.size,0,none⟩=false:=Q02 b.res 0;have r1:(i.setCell ⟨B,2,none⟩ (.int .i64 y)).cell? ⟨w.heap.size,1,none⟩=some (.slice none 0 0):=Q00 b.res 1 _ rfl
   have Y:(i.setCell ⟨B,2,none⟩ (.int .i64 y)).frozen? ⟨w.heap.size,1,none⟩=false:=Q02 b.res 1;have r2:(i.setCell ⟨B,2,none⟩ (.int .i64 y)).cell? ⟨w.heap.size,2,none⟩=some (.int .i64 0):=Q00 b.res 2 _ rfl;have Z:(i.setCell ⟨B,2,none⟩ (.int .i64 y)).frozen? ⟨w.heap.size,2,none⟩=false:=Q02 b.res 2;have r:=Q01 (b.done q (Nat.le_of_lt p));clear u A f j b;go_wp2;refine bodyPost_ret (v:=jrn key (.slice o n c) y) (by simp [results,Tryz.results81,go_sem,r0,r1,r2]) rfl ⟨_,⟨key,cs,y⟩,rfl,r.out.1,show cs.length≤11 by have:=U.out;omega,r.out.2⟩
  by_cases e1:x=1
  ·subst e1
   have z1:w4.cell? ⟨B,1,none⟩=some (.slice o n c):=Q00 f.out.box 1 _ rfl;have ao:Hid (isCur k w4.drew):=f.out.dr.cur.below (Below.drew (Below.refl _ _));have ap:Hid (k < w4.drew.heap.size):=f.out.dr.lt q;go_wp2
   go_region_law (first|(go_simp;go_at_call 72;refine (Q5F k _ ao.out ap.out).mono ?_;rintro e w7 ⟨a,i2,g,rfl,hd⟩;have am:w4.grownBy w7 (some k):=⟨hd.gr.os,hd.gr.tape,hd.gr.output,hd.gr.size,hd.gr.block⟩;have J7:=f.out.draw hd.cur am D F E;have y7:w7.cell? ⟨B,1,none⟩=some (.slice o n c):=Q00 J7.box 1 _ rfl;have av:∀O,(w7.alloc O).cell? ⟨B,1,none⟩=some (.slice o n c):=(fun O=> Q00 (J7.below ((Below.refl _ _).alloc (Kaq _) O) q).box 1 _ rfl);have aw:V.heap.size≤w7.heap.size:=(by have:=(Array.getElem?_eq_some_iff.1 J7.box).1;omega);clear hd am;dsimp only)|(refine Q0q Qd9 rfl (.tmp 27) (.tmp 30) rfl V.heap.size (.slice o n c) cs rfl (World.ownsRow.alloc J7.own _) (some ⟨w7.heap.size,0,none⟩) 1 _ [(a,i2,g)] 1 rfl rfl (by simp) Q9c (by simp;have:=U.out;omega) (by simp;omega) ?_;intro v8 H ab an _;obtain ⟨G,t,e8,_⟩:=ownL.open (L:=Q3K) ab;rw [List.length_append] at e8;rw [U.out] at e8;subst e8;have R8:=J7.push q ac aa (Nat.le_of_lt p) p rfl ab an;have p8:H.cell? ⟨B,1,none⟩=some (.slice o n c):=Q00 R8.1 1 _ rfl;have f8:H.frozen? ⟨B,1,none⟩=false:=Q02 R8.1 1))
   all_goals (
    have h:=R8.2;have q0:(H.setCell ⟨B,1,none⟩ (.slice G (n+1) t)).cell? ⟨B,0,none⟩=some (.int .i64 key):=Q00 h.box 0 _ rfl;have q1:(H.setCell ⟨B,1,none⟩ (.slice G (n+1) t)).cell? ⟨B,1,none⟩=some (.slice G (n+1) t):=Q00 h.box 1 _ rfl;have q2:(H.setCell ⟨B,1,none⟩ (.slice G (n+1) t)).cell? ⟨B,2,none⟩=some (.int .i64 s):=Q00 h.box 2 _ rfl;have r0:(H.setCell ⟨B,1,none⟩ (.slice G (n+1) t)).cell? ⟨w.heap.size,0,none⟩=some (.int .i64 0):=Q00 h.res 0 _ rfl;have X:(H.setCell ⟨B,1,none⟩ (.slice G (n+1) t)).frozen? ⟨w.heap.size,0,none⟩=false:=Q02 h.res 0
    have r1:(H.setCell ⟨B,1,none⟩ (.slice G (n+1) t)).cell? ⟨w.heap.size,1,none⟩=some (.slice none 0 0):=Q00 h.res 1 _ rfl;have Y:(H.setCell ⟨B,1,none⟩ (.slice G (n+1) t)).frozen? ⟨w.heap.size,1,none⟩=false:=Q02 h.res 1;have r2:(H.setCell ⟨B,1,none⟩ (.slice G (n+1) t)).cell? ⟨w.heap.size,2,none⟩=some (.int .i64 0):=Q00 h.res 2 _ rfl;have Z:(H.setCell ⟨B,1,none⟩ (.slice G (n+1) t)).frozen? ⟨w.heap.size,2,none⟩=false:=Q02 h.res 2;have r:=Q01 (h.done q (Nat.le_of_lt p));clear f h R8 ab an J7 y7 av z1;go_wp2
    refine bodyPost_ret (v:=jrn key (.slice G (n+1) t) s) (by simp [results,Tryz.results81,go_sem,r0,r1,r2]) rfl ⟨_,⟨key,cs++[(a,i2,g)],s⟩,rfl,r.out.1,show (cs++[(a,i2,g)]).length≤11 by rw [List.length_append,U.out];simp;omega,r.out.2⟩)
  ·go_wp2_with fail
   refine (Q24 k [-1,999999,1000000] w4 f.out.dr.cur (f.out.dr.lt q) (by decide) (by decide)).mono ?_;rintro e i ⟨y,_,rfl,u,A⟩;have j:=f.out.draw u A D F E;have b:=j.set0 q ac aa y;have y2:i.cell? ⟨B,0,none⟩=some (.int .i64 key):=Q00 j.box 0 _ rfl;have aq:i.frozen? ⟨B,0,none⟩=false:=Q02 j.box 0;have q0:(i.setCell ⟨B,0,none⟩ (.int .i64 y)).cell? ⟨B,0,none⟩=some (.int .i64 y):=Q00 b.box 0 _ rfl;have q1:(i.setCell ⟨B,0,none⟩ (.int .i64 y)).cell? ⟨B,1,none⟩=some (.slice o n c):=Q00 b.box 1 _ rfl
   have q2:(i.setCell ⟨B,0,none⟩ (.int .i64 y)).cell? ⟨B,2,none⟩=some (.int .i64 s):=Q00 b.box 2 _ rfl;have r0:(i.setCell ⟨B,0,none⟩ (.int .i64 y)).cell? ⟨w.heap.size,0,none⟩=some (.int .i64 0):=Q00 b.res 0 _ rfl;have X:(i.setCell ⟨B,0,none⟩ (.int .i64 y)).frozen? ⟨w.heap.size,0,none⟩=false:=Q02 b.res 0;have r1:(i.setCell ⟨B,0,none⟩ (.int .i64 y)).cell? ⟨w.heap.size,1,none⟩=some (.slice none 0 0):=Q00 b.res 1 _ rfl;have Y:(i.setCell ⟨B,0,none⟩ (.int .i64 y)).frozen? ⟨w.heap.size,1,none⟩=false:=Q02 b.res 1
   have r2:(i.setCell ⟨B,0,none⟩ (.int .i64 y)).cell? ⟨w.heap.size,2,none⟩=some (.int .i64 0):=Q00 b.res 2 _ rfl;have Z:(i.setCell ⟨B,0,none⟩ (.int .i64 y)).frozen? ⟨w.heap.size,2,none⟩=false:=Q02 b.res 2;have r:=Q01 (b.done q (Nat.le_of_lt p));clear u A f j b;go_wp2;refine bodyPost_ret (v:=jrn y (.slice o n c) s) (by simp [results,Tryz.results81,go_sem,r0,r1,r2]) rfl ⟨_,⟨y,cs,s⟩,rfl,r.out.1,show cs.length≤11 by have:=U.out;omega,r.out.2⟩
def Q5n (lll:List (List (List Int))):Prop:=1≤lll.length∧lll.length≤3∧∀i,i < lll.length→(lll.getD i []).length=8∧∀j,((lll.getD i []).getD j []).length≤2
theorem Qed (cs:List Cd):∀n,1≤(Q1q cs n).length
 |0=> by simp [Q1q]
 |n+1=> by rw [Q1q];simp
theorem Qbu (key:Int) (R:List (List Bk)) (b:1≤R.length) (c:R.length≤3):Q5n (Q1c key R):=by
 refine ⟨by simpa [Q1c] using b,by simpa [Q1c] using c,fun i hi=> ?_⟩
 have a:i < R.length:=by simpa [Q1c] using hi
 rw [Q2Y key R i a];exact ⟨Q1y _ _,fun j=> Q5U _ _ j⟩
theorem GTabs.draw {w c:World} {base k:Nat} {hs:List Hd} {R:List (List (List Int))} (h:GTabs w base hs R) (b:w.grownBy c (some k)) (g:k < base):GTabs c base hs R:=
 ⟨h.1,fun i hi=> by
  obtain ⟨m,d,a,e,f,h2⟩:=h.2 i hi;refine ⟨m,d,a,e,Q3y (L:=Q0H) f b g,h2.grown b (fun q l=> ?_)⟩
  cases hob:(hv a q).ownBlock with
  |none=> exact .inl rfl
  |some j=> right;have:=((h2.row q l).lt j hob).1;intro e;simp at e;omega⟩
theorem QcY (k:Nat) (w:World) (hc:isCur k w) (I:k < w.heap.size):
  Calls Tryz.prog 134 #[.pointer (some ⟨k,0,none⟩)] w fun e w'=> ∃key l b hs i c2 m j,e=.returned (plv key (.slice i l.length c2) (.slice m b.length j))∧l.length≤100∧Q5n b∧Q1p w' w.heap.size (.slice i l.length c2) l∧ownL Q0H 51 w' w.heap.size (.slice m b.length j) hs∧GTabs w' w.heap.size hs b∧Dr k w w':=by
 obtain ⟨W0,u⟩:∃W,w.alloc (.cells #[.int .i64 0,.slice none 0 0,.slice none 0 0] 29)=W:=⟨_,rfl⟩;have Z:=alb0v0v1 u;have q:=Q01 (show Dr k w W0 from ⟨hc.below (Z.mono I),by rw [←u];exact Q0v w _ k⟩);have T:Hid _:=alx0v0v1 u;have ae:=alz0v0v1 u;clear Z hc;go_enter Tryz.func134,Tryz.ntmps134;go_wp2_with fail;refine (Q7H k W0 q.out.cur (q.out.lt I)).mono ?_;rintro e w1 ⟨v,⟨key,cs,s⟩,rfl,⟨vl,rfl,z⟩,hj,B,h⟩;obtain ⟨o,c,e1,_⟩:=ownL.open (L:=Q3K) z.1;subst e1;dsimp only at z B hj ⊢;obtain ⟨⟨ab,hl,_,_⟩,D⟩:=And.intro (Q0W hj) (Q1W hj)
 have t:=Q01 (Q37 hj cs.length (by omega));obtain ⟨W2,x⟩:∃W,w1.alloc (.cells #[.int .i64 key,.slice o cs.length c,.int .i64 s] 25)=W:=⟨_,rfl⟩;have g:=alb0v0v1 x;have aj:W0.heap.size≤w1.heap.size:=h.gr.size;have ak:=g.size;have J:=Q01 ((q.out.step h.cur h.gr).below I (g.mono (by omega)));have U:=Q01 ((g.block _ (by omega)).trans (Q0a h.gr ae (by omega) T.out));have f:=Q01 (Q4r key o c cs W2 (ownL.rds (L:=Q3K) (Q03 z.1 g)) ab hl D)
 have j0:W2.cell? ⟨w1.heap.size,0,none⟩=some (.int .i64 key):=by rw [←x];simp [go_sem]
 have j1:W2.cell? ⟨w1.heap.size,1,none⟩=some (.slice o cs.length c):=by rw [←x];simp [go_sem]
 clear h z T q g D hj;obtain ⟨n,hn⟩:∃n,cs.length=n:=⟨_,rfl⟩;rw [hn] at x j1 f ⊢;have HN:=Q01 hn;obtain ⟨d,A⟩:∃s,Q0f cs cs.length=s:=⟨_,rfl⟩;rw [hn] at A hl B;rw [A] at f;rw [hn,A] at t;obtain ⟨rg,H⟩:∃s,Q1q cs n=s:=⟨_,rfl⟩;rw [H] at f;have G:=Q01 (show 1≤rg.length∧rg.length≤3 by rw [←H];exact ⟨Qed cs n,Q7r cs n⟩);clear A H hn;go_wp2_with fail;refine (f.out).mono ?_;rintro e w3 ⟨oB,cB,oR,cR,hs,rfl,ac,ad,pt,al,y⟩;have F:=Q01 ac;have P:=Q01 ad;have N:=Q01 (QdQ pt);have M:=Q01 (J.out.below I (y.mono (by omega)))
 have V:=Q01 ((y.block _ (by omega)).trans U.out);have af:=y.size;clear ac ad pt y f U J;have E:=Q01 (Q7R key d rg (by have:=t.out.2;omega) G.out.2);have Y:=Q01 (Qbu key rg G.out.1 G.out.2);obtain ⟨b,C⟩:∃s,Q1c key rg=s:=⟨_,rfl⟩;rw [C] at N E Y;clear C;have X:=Q01 (ownL.rds (L:=Q1b) F.out);have aa:=(fun e=> (InRow.cap (InRow.of F.out)) d.length cB (by rw [e]):oB=none→cB=0)
 have R:=Q01 (QbU key oB cB d oR cR b hs.length N.out.1 w3 X.out aa (by have:=t.out.2;omega) (RcR.mon.go (N.out.rc P.out) (Kcq _) (Kaq _)) (by omega) E.out.2.2.2.1 E.out.2.2.2.2);have O:=Q01 N.out.1;clear X aa;go_wp2_with fail;refine (R.out).mono ?_;rintro e p ⟨i,c2,m,j,hq,rfl,h1,h2,h3,y⟩;have a:=(y.block _ (by omega)).trans V.out;have am:=y.size;have r0:p.cell? ⟨w.heap.size,0,none⟩=some (.int .i64 0):=Q00 a 0 _ rfl;have ag:p.frozen? ⟨w.heap.size,0,none⟩=false:=Q02 a 0;have r1:p.cell? ⟨w.heap.size,1,none⟩=some (.slice none 0 0):=Q00 a 1 _ rfl
 have ah:p.frozen? ⟨w.heap.size,1,none⟩=false:=Q02 a 1;have r2:p.cell? ⟨w.heap.size,2,none⟩=some (.slice none 0 0):=Q00 a 2 _ rfl;have ai:p.frozen? ⟨w.heap.size,2,none⟩=false:=Q02 a 2
 have r:Hid (Q1p (setP p w.heap.size (.int .i64 key) (.slice i d.length c2) (.slice m hs.length j)) w.heap.size (.slice i d.length c2) d∧ownL Q0H 51 (setP p w.heap.size (.int .i64 key) (.slice i d.length c2) (.slice m hs.length j)) w.heap.size (.slice m hs.length j) hq∧GTabs (setP p w.heap.size (.int .i64 key) (.slice i d.length c2) (.slice m hs.length j)) w.heap.size hq b∧Dr k w (setP p w.heap.size (.int .i64 key) (.slice i d.length c2) (.slice m hs.length j))):=by
  have g1:=Q07 a 0 (.int .i64 key);have g2:=Q07 g1 1 (.slice i d.length c2);exact ⟨Q04 (Q0t (Q0t (Q0t h1 a Q85 0 _) g1 Q85 1 _) g2 Q85 2 _) (by omega),Q04 (Q0t (Q0t (Q0t h2 a QaQ 0 _) g1 QaQ 1 _) g2 QaQ 2 _) (by omega),GTabs.mono (((h3.putB a 0 _).putB g1 1 _).putB g2 2 _) (by omega),(M.out.below I (y.mono (by omega))).below I (Q0A (Below.refl _ _) (Kaq _) _ _ _)⟩
 clear h1 h2 h3 y a R F P N M V;go_wp2;refine bodyPost_ret (v:=plv key (.slice i d.length c2) (.slice m hs.length j)) (by simp [results,Tryz.results134,go_sem,r0,r1,r2]) rfl ⟨key,d,b,hq,i,c2,m,j,by rw [←O.out],t.out.2,Y.out,r.out.1,by rw [←O.out];exact r.out.2.1,r.out.2.2.1,r.out.2.2.2⟩
theorem Q4b {key:Int} {l:List Bk} {a:List (List (List Int))} (k:l.length≤1000) (f:a.length≤3) (h:∀i,i < a.length→(a.getD i []).length=8∧∀j,((a.getD i []).getD j []).length≤2):Q2f ⟨key,l,a⟩:=by
 refine ⟨by dsimp only;omega,by dsimp only;omega, ?_,fun i hi=> by dsimp only at *;rw [(h i hi).1];decide,fun i hi j g=> by have:=(h i hi).2 j;dsimp only;omega⟩;dsimp only
 have b:∀i,lenR a i≤16:=fun i=> by
  by_cases h':i < a.length
  ·have c:=Q56 (QhO (a.getD i [])) 2 (fun j=> (h i h').2 j) (a.getD i []).length
   have d:=(h i h').1
   show Qds (QhO (a.getD i [])) (a.getD i []).length≤16
   rw [d] at c ⊢;omega
  ·unfold lenR;rw [List.getD_eq_getElem?_getD,List.getElem?_eq_none (by omega)];exact Kcq _
 have c:=Q56 (lenR a) 16 b a.length
 show Qds (lenR a) a.length≤1048576
 omega
theorem Qbq {n:Nat} {α:Type} {d:α} {Q:Nat→α→Prop} (h:∀i,i < n→∃x,Q i x):∃a:List α,a.length=n∧∀i,i < n→Q i (a.getD i d):=by
 induction n with
 |zero=> exact ⟨[],rfl,fun i hi=> absurd hi (Nat.not_lt_zero _)⟩
 |succ n ih=>
  obtain ⟨a,b,c⟩:=ih (fun i hi=> h i (by omega));obtain ⟨y,f⟩:=h n (by omega);refine ⟨a++[y],by simp [b],fun i hi=> ?_⟩
  by_cases hi':i < n
  ·rw [List.getD_eq_getElem?_getD,List.getElem?_append_left (by omega),←List.getD_eq_getElem?_getD];exact c i hi'
  ·have e:i=n:=by omega
   subst e
   have:(a++[y]).getD i d=y:=by rw [←b];simp
   rw [this];exact f
theorem Qf5 {hs:List Hd} {j q:Nat} {x:Hd} (h:q≠j):hv (hs.set j x) q=hv hs q:=by
 unfold hv;rw [List.getD_eq_getElem?_getD,List.getElem?_set_ne (Ne.symm h),←List.getD_eq_getElem?_getD]
theorem Qfj {hs:List Hd} {j:Nat} {x:Hd} (h:j < hs.length):hv (hs.set j x) j=.slice x.1 x.2.1 x.2.2:=by
 unfold hv;rw [List.getD_eq_getElem?_getD,List.getElem?_set_self h];rfl
theorem QeG (hs:List Hd) (j:Nat) (x:Hd):(hs.set j x).flatMap Q0H.cs=(hs.flatMap Q0H.cs).set j (.slice x.1 x.2.1 x.2.2):=by
 have e:∀l:List Hd,l.flatMap Q0H.cs=l.map (fun x=> Value.slice x.1 x.2.1 x.2.2):=fun l=> by
  induction l with
  |nil=> rfl
  |cons a l ih=> rw [List.flatMap_cons,ih];rfl
 rw [e,e,List.map_set]
theorem QiB:(51:TypeId)≠47:=by decide
theorem QiG:(119:TypeId)≠47:=by decide
theorem QeE {s:World} {base u r n Z i:Nat} {P:Nat} {Y:Option Addr} {hs:List Hd} {c:List (List (List Int))} {x y:Int} (h:GTabs s base hs c) (U:ownL Q0H 51 s base (.slice Y n P) hs) (w:Q5n c) (hi:i < c.length) (he:hv hs i=.slice (some ⟨u,0,none⟩) 8 Z) (V:Q8j s base (.slice (some ⟨r,0,none⟩) 2 2) [x,y]):
  ∃m,Q5n m∧m.length=c.length∧RcR base (s.setCell ⟨u,2,none⟩ (.slice (some ⟨r,0,none⟩) 2 2)).heap.size (s.setCell ⟨u,2,none⟩ (.slice (some ⟨r,0,none⟩) 2 2)) (.slice Y n P) m:=by
 obtain ⟨W,I⟩:∃W,s.setCell ⟨u,2,none⟩ (.slice (some ⟨r,0,none⟩) 2 2)=W:=⟨_,rfl⟩;obtain ⟨o3,H,ab,e3,J,k2⟩:=h.2 i hi
 have R:hv hs i=.slice o3 (c.getD i []).length H:=by unfold hv;rw [e3]
 have C:=(w.2.2 i hi).1;rw [he,C] at R;injection R with E q2 q3;subst E q3;rw [C] at J
 have A:s.grownBy W (some u):=by rw [←I];exact Q0L s u 2 _
 have b:∀v l,Q8j s base v l→Q8j W base v l:=fun v l hv=> World.ownsRow.kept hv A (Q2u hv J QfU)
 have key:∀q,q < c.length→∃t:List (List Int),(t.length=8∧∀j,(t.getD j []).length≤2)∧RcT base W.heap.size W (hv hs q) t:=by
  intro q D;obtain ⟨O,F,f,e5,G,B⟩:=h.2 q D;have p:=w.2.2 q D
  have T:hv hs q=.slice O (c.getD q []).length F:=by unfold hv;rw [e5]
  rw [p.1] at G B T;rw [T];have a:=B.len
  by_cases hb:O=some ⟨u,0,none⟩
  ·subst hb
   have M:s.ownsRow base 47 Q0H.k (.slice (some ⟨u,0,none⟩) 8 F) 8 (f.flatMap Q0H.cs):=by have h:=G;unfold ownL at h;rw [a] at h;exact h
   have X:=(World.ownsRow.stored M 2 (.slice (some ⟨r,0,none⟩) 2 2)).1;rw [I,←QeG f 2 (some ⟨r,0,none⟩,2,2)] at X
   have N:ownL Q0H 47 W base (.slice (some ⟨u,0,none⟩) 8 F) (f.set 2 (some ⟨r,0,none⟩,2,2)):=by
    unfold ownL;rw [List.length_set,a];exact X
   refine ⟨(c.getD q []).set 2 [x,y],⟨by rw [List.length_set];exact p.1,fun j=> ?_⟩,⟨f.set 2 (some ⟨r,0,none⟩,2,2),by rw [List.length_set,List.length_set,p.1];exact a, ?_,fun j g=> ?_⟩⟩
   ·by_cases g:j=2
    ·subst g;rw [List.getD_eq_getElem?_getD,List.getElem?_set_self (by rw [p.1];decide)];simp
    ·rw [List.getD_eq_getElem?_getD,List.getElem?_set_ne (Ne.symm g),←List.getD_eq_getElem?_getD];exact p.2 j
   ·have:=InRow.ri (L:=Q0H) (InRow.of N);simpa [a] using this
   ·rw [List.length_set,p.1] at g
    by_cases hj2:j=2
    ·subst hj2
     rw [Qfj (by omega),List.getD_eq_getElem?_getD,List.getElem?_set_self (by rw [p.1];decide)];exact ⟨InRow.ri (L:=Q1P) (InRow.of (b _ _ V)),InRow.cap (InRow.of (b _ _ V))⟩
    ·rw [Qf5 hj2,List.getD_eq_getElem?_getD,List.getElem?_set_ne (Ne.symm hj2),←List.getD_eq_getElem?_getD]
     exact ⟨InRow.ri (L:=Q1P) (InRow.of (b _ _ (B.row j g))),InRow.cap (InRow.of (b _ _ (B.row j g)))⟩
  ·have N:ownL Q0H 47 W base (.slice O 8 F) f:=by
    refine World.ownsRow.kept G A ?_;obtain ⟨g5,aa,E⟩:=Q2R G (by rw [a];decide);injection E with E _ _
    ·subst E;right;intro e;simp [Value.ownBlock] at e;exact hb (by rw [e])
   refine ⟨c.getD q [],p,⟨f,by rw [p.1];exact a, ?_,fun j g=> ?_⟩⟩
   ·have:=InRow.ri (L:=Q0H) (InRow.of N);simpa [a] using this
   ·rw [p.1] at g
    exact ⟨InRow.ri (L:=Q1P) (InRow.of (b _ _ (B.row j g))),InRow.cap (InRow.of (b _ _ (B.row j g)))⟩
 obtain ⟨ts,z,D⟩:=Qbq (d:=([]:List (List Int))) key;rw [I];refine ⟨ts,⟨by rw [z];exact w.1,by rw [z];exact w.2.1,fun j g=> (D j (by omega)).1⟩,z,⟨hs,by rw [z];exact h.1, ?_,fun j g=> (D j (by omega)).2⟩⟩;exact InRow.ri (L:=Q0H) (InRow.of (World.ownsRow.kept U A (Q2u U J QiB)))
structure PS (k B R C:Nat) (w0 wr:World) (key:Int) (l:List Bk) (lll:List (List (List Int))) (hs:List Hd) (o2:Option Addr) (nb c2:Nat) (oQ:Option Addr) (n cQ:Nat):Prop where
 len:nb=l.length
 box:wr.heap[B]? =some (.cells #[.int .i64 key,.slice o2 nb c2,.slice oQ n cQ] 29 (0,0))
 res:wr.heap[R]? =some (.cells #[.int .i64 0,.slice none 0 0,.slice none 0 0] 29 (0,0))
 bk:Q1p wr C (.slice o2 nb c2) l
 ow:ownL Q0H 51 wr C (.slice oQ n cQ) hs
 gt:GTabs wr C hs lll
 dr:Dr k w0 wr
theorem PS.draw {k B R C:Nat} {j wr:World} {key:Int} {l:List Bk} {b:List (List (List Int))} {hs:List Hd} {g i:Option Addr} {f c2 n d:Nat} {x:World} (h:PS k B R C j wr key l b hs g f c2 i n d) (q:isCur k x) (a:wr.grownBy x (some k)) (m:B≠k) (p:R≠k) (c:k < C):PS k B R C j x key l b hs g f c2 i n d:=
 ⟨h.len,Q0a a (Array.getElem?_eq_some_iff.1 h.box).1 m h.box,Q0a a (Array.getElem?_eq_some_iff.1 h.res).1 p h.res,Q3y h.bk a c,Q3y (L:=Q0H) h.ow a c,h.gt.draw a c,h.dr.step q a⟩
theorem PS.below {k B R C:Nat} {c wr:World} {key:Int} {l:List Bk} {b:List (List (List Int))} {hs:List Hd} {g i:Option Addr} {f c2 n d:Nat} {x:World} (h:PS k B R C c wr key l b hs g f c2 i n d) (a:Below wr.heap.size wr x) (j:k < c.heap.size):PS k B R C c x key l b hs g f c2 i n d:=
 ⟨h.len,(a.block _ (Array.getElem?_eq_some_iff.1 h.box).1).trans h.box,(a.block _ (Array.getElem?_eq_some_iff.1 h.res).1).trans h.res,Q03 h.bk a,Q03 h.ow a,h.gt.kept a,h.dr.below j (a.mono h.dr.gr.size)⟩
structure PE (k B R C:Nat) (w0 wr:World) (v0 v1 v2:Value) (m:Pm):Prop where
 box:wr.heap[B]? =some (.cells #[v0,v1,v2] 29 (0,0))
 res:wr.heap[R]? =some (.cells #[.int .i64 0,.slice none 0 0,.slice none 0 0] 29 (0,0))
 rc:RcPm C wr.heap.size wr (.agg #[v0,v1,v2]) m
 fit:Q2f m
 dr:Dr k w0 wr
theorem PE.done {k B C:Nat} {a wr:World} {b c d:Value} {m:Pm} (h:PE k B a.heap.size C a wr b c d m) (g:k < a.heap.size) (f:a.heap.size < C):RcPm a.heap.size (setP wr a.heap.size b c d).heap.size (setP wr a.heap.size b c d) (.agg #[b,c,d]) m∧Q2f m∧Dr k a (setP wr a.heap.size b c d):=
 ⟨by rw [Q35];exact (h.rc.step (Q3c wr a.heap.size b c d) (.inl f)).mono (Nat.le_of_lt f) (Kaq _),h.fit,h.dr.below g (Q0A (Below.refl _ _) (Kaq _) _ _ _)⟩
theorem PS.end0 {k B R C:Nat} {i wr:World} {key:Int} {l:List Bk} {a:List (List (List Int))} {hs:List Hd} {f g:Option Addr} {d c2 n c:Nat} (h:PS k B R C i wr key l a hs f d c2 g n c) (b:Q5n a) (j:l.length≤1000):PE k B R C i wr (.int .i64 key) (.slice f d c2) (.slice g n c) ⟨key,l,a⟩:=⟨h.box,h.res,Q6X h.len h.bk h.ow h.gt,Q4b j b.2.1 b.2.2,h.dr⟩
theorem PS.key {k B R C:Nat} {c wr:World} {key:Int} {l:List Bk} {a:List (List (List Int))} {hs:List Hd} {g i:Option Addr} {f c2 n d:Nat} (h:PS k B R C c wr key l a hs g f c2 i n d) (b:Q5n a) (r:l.length≤1000) (q:k < c.heap.size) (j:c.heap.size≤B) (m:R≠B) (y:Int):PE k B R C c (wr.setCell ⟨B,0,none⟩ (.int .i64 y)) (.int .i64 y) (.slice g f c2) (.slice i n d) ⟨y,l,a⟩:=
 ⟨Q07 h.box 0 _,Q2a h.res m,Q6X h.len (Q0t h.bk h.box Q85 0 _) (Q0t h.ow h.box QaQ 0 _) (h.gt.putB h.box 0 _),Q4b r b.2.1 b.2.2,h.dr.below q ((Below.refl _ _).setCell (p:=⟨B,0,none⟩) j _)⟩
theorem PS.backs {k B R C:Nat} {d wr:World} {key:Int} {l:List Bk} {a:List (List (List Int))} {hs:List Hd} {w m:Option Addr} {v c2 n j:Nat} {L:List Bk} {g:Option Addr} {f c i:Nat} (h:PS k B R C d wr key l a hs w v c2 m n j) (b:Q5n a) (x:c≤7) (hm:c=L.length) (t:k < d.heap.size) (q:d.heap.size≤B) (s:R≠B) (r:C≤i) (u:Q1p wr i (.slice g c f) L):PE k B R C d (wr.setCell ⟨B,1,none⟩ (.slice g c f)) (.int .i64 key) (.slice g c f) (.slice m n j) ⟨key,L,a⟩:=
 ⟨Q07 h.box 1 _,Q2a h.res s,Q6X hm (Q04 (Q0t u h.box Q85 1 _) r) (Q0t h.ow h.box QaQ 1 _) (h.gt.putB h.box 1 _),Q4b (by omega) b.2.1 b.2.2,h.dr.below t ((Below.refl _ _).setCell (p:=⟨B,1,none⟩) q _)⟩
theorem PS.nil {k B R C:Nat} {a wr:World} {key:Int} {l:List Bk} {b:List (List (List Int))} {hs:List Hd} {d r:Option Addr} {c c2 n f:Nat} (h:PS k B R C a wr key l b hs d c c2 r n f) (q:l.length≤1000) (m:k < a.heap.size) (g:a.heap.size≤B) (j:R≠B):PE k B R C a (wr.setCell ⟨B,2,none⟩ (.slice none 0 0)) (.int .i64 key) (.slice d c c2) (.slice none 0 0) ⟨key,l,[]⟩:=
 ⟨Q07 h.box 2 _,Q2a h.res j,QeD h.len (Q0t h.bk h.box Q85 2 _),Q4b q (by simp) (fun i hi=> absurd hi (Nat.not_lt_zero _)),h.dr.below m ((Below.refl _ _).setCell (p:=⟨B,2,none⟩) g _)⟩
theorem PS.bend {k B R C:Nat} {g wr:World} {key:Int} {l:List Bk} {b:List (List (List Int))} {hs:List Hd} {D E:Option Addr} {A c2 n v:Nat} {a r F i:Nat} {x y:Int} (h:PS k B R C g wr key l b hs D A c2 E n v) (d:Q5n b) (J:l.length≤1000) (I:k < g.heap.size) (P:g.heap.size≤C) (hi:i < b.length) (z:hv hs i=.slice (some ⟨a,0,none⟩) 8 F) (L:Q8j wr C (.slice (some ⟨r,0,none⟩) 2 2) [x,y]) (q:a≠B) (s:a≠R) (H:C≤a):
  ∃m,PE k B R C g (wr.setCell ⟨a,2,none⟩ (.slice (some ⟨r,0,none⟩) 2 2)) (.int .i64 key) (.slice D A c2) (.slice E n v) m:=by
 obtain ⟨f,s1,s2,s3⟩:=QeE h.gt h.ow d hi z L;obtain ⟨O,j,M,G,N,T⟩:=h.gt.2 i hi
 have w:hv hs i=.slice O (b.getD i []).length j:=by unfold hv;rw [G]
 rw [z,(d.2.2 i hi).1] at w;injection w with q1 q2 q3;subst q1 q3;have t:wr.grownBy (wr.setCell ⟨a,2,none⟩ (.slice (some ⟨r,0,none⟩) 2 2)) (some a):=Q0L wr a 2 _;have c:=World.ownsRow.kept h.bk t (Q2u h.bk N QiG);have u:=h.len;subst u;refine ⟨⟨key,l,f⟩,Q2a h.box (Ne.symm q),Q2a h.res (Ne.symm s),⟨_,_,rfl,InRow.ri (InRow.of c),InRow.cap (InRow.of c),s3,InRow.cap (InRow.of h.ow)⟩,Q4b J s1.2.1 s1.2.2,h.dr.below I ((Below.refl _ _).setCell (p:=⟨a,2,none⟩) (show g.heap.size≤a by omega) _)⟩
theorem Qgi (w:World) (x y:Int):Q8j (w.alloc (.cells #[.int .i64 x,.int .i64 y] 3)) w.heap.size (.slice (some ⟨w.heap.size,0,none⟩) 2 2) [x,y]:=⟨by simp [Q1P],.inr ⟨w.heap.size,2,#[.int .i64 x,.int .i64 y],rfl,Kaq _,heap_alloc_new w _,by simp,by decide,by simp [Q1P],by simp [Q1P]⟩⟩
theorem Q78 (k:Nat) (b:List Int) (w:World) (j:isCur k w) (l:k < w.heap.size) (h:0 < b.length) (i:b.length≤1000):
  Calls Tryz.prog 55 #[.pointer (some ⟨k,0,none⟩),.slice (some ⟨w.heap.size,0,none⟩) b.length b.length] (w.alloc (.cells (b.map (Value.int .i64)).toArray 3)).drew fun e d=> ∃x,x∈b∧e=.returned (.int .i64 x)∧isCur k d∧w.grownBy d (some k):=by
 refine (Q0P k w.heap.size b _ ((j.alloc l _).below (Below.drew (Below.refl _ _))) (by simp) (by omega) h i (fun q c=> ?_)).mono ?_
 ·refine Q00 (World.alloc_heap_new w _) q _ ?_
  rw [List.getElem?_toArray,List.getElem?_map,List.getElem?_eq_getElem c,List.getD_eq_getElem?_getD,List.getElem?_eq_getElem c]
  rfl
 ·rintro e d ⟨q,c,rfl,f,a⟩
  have g:(w.alloc (.cells (b.map (Value.int .i64)).toArray 3)).grownBy d (some k):=⟨a.os,a.tape,a.output,a.size,a.block⟩;refine ⟨_, ?_,rfl,f,Q05 (Q0v w _ k) g⟩;rw [List.getD_eq_getElem?_getD,List.getElem?_eq_getElem c];exact List.getElem_mem c
theorem QdR {k B R C:Nat} {q wr:World} {key:Int} {l:List Bk} {a:List (List (List Int))} {hs:List Hd} {p c:Option Addr} {m c2 n b:Nat} {x:World} (h:PS k B R C q wr key l a hs p m c2 c n b) (i:isCur k x) (j:wr.grownBy x (some k)) (d:B≠k) (g:R≠k) (f:k < C):x.cell? ⟨B,2,none⟩=some (.slice c n b):=Q00 (h.draw i j d g f).box 2 _ rfl
theorem Qdt {k B R C:Nat} {u wr:World} {key:Int} {l:List Bk} {a:List (List (List Int))} {hs:List Hd} {t:Option Addr} {s c2 n f:Nat} {x:World} {g i d c:Nat} (h:PS k B R C u wr key l a hs t s c2 (some ⟨g,0,none⟩) n f) (q:isCur k x) (r:wr.grownBy x (some k)) (j:B≠k) (p:R≠k) (m:k < C) (hi:i < a.length) (b:hv hs i=.slice (some ⟨d,0,none⟩) 8 c):x.cell? ⟨g,i,none⟩=some (.slice (some ⟨d,0,none⟩) 8 c):=by
 have h2:=h.draw q r j p m;rw [←b];exact Q31 h2.ow i (by rw [h2.gt.1];exact hi)
theorem Qdw {wr:World} {B g a i n c b:Nat} (f:a≠B) (h:a≠g) (d:∀O,(wr.alloc O).cell? ⟨B,2,none⟩=some (.slice (some ⟨g,0,none⟩) n c)) (h2:∀O,(wr.alloc O).cell? ⟨g,i,none⟩=some (.slice (some ⟨a,0,none⟩) 8 b)) (O:Obj) (v:Value):((wr.alloc O).setCell ⟨a,2,none⟩ v).cell? ⟨B,2,none⟩=some (.slice (some ⟨g,0,none⟩) n c)∧((wr.alloc O).setCell ⟨a,2,none⟩ v).cell? ⟨g,i,none⟩=some (.slice (some ⟨a,0,none⟩) 8 b):=
 ⟨(World.cell?_setCell_far _ _ _ _ f).trans (d O),(World.cell?_setCell_far _ _ _ _ h).trans (h2 O)⟩
theorem QdF {k B R C:Nat} {v wr:World} {key:Int} {l:List Bk} {b:List (List (List Int))} {hs:List Hd} {H:Option Addr} {G c2 n y g i c w:Nat} (h:PS k B R C v wr key l b hs H G c2 (some ⟨g,0,none⟩) n y) (hi:i < b.length) (f:hv hs i=.slice (some ⟨c,0,none⟩) 8 w) (q:Q5n b) (j:l.length≤1000) (L:k < v.heap.size) (M:v.heap.size≤C) (E:c≠B) (F:c≠R) (t:C≤c) (x:Int):
  (∀O,(wr.alloc O).cell? ⟨B,2,none⟩=some (.slice (some ⟨g,0,none⟩) n y))∧(∀O,(wr.alloc O).cell? ⟨g,i,none⟩=some (.slice (some ⟨c,0,none⟩) 8 w))∧(∃u,(wr.alloc (.cells #[.int .i64 x,.int .i64 1] 3)).cell? ⟨c,2,none⟩=some u)∧(∀O,(wr.alloc O).frozen? ⟨c,2,none⟩=false)∧Hid (∃m,PE k B R C v ((wr.alloc (.cells #[.int .i64 x,.int .i64 1] 3)).setCell ⟨c,2,none⟩ (.slice (some ⟨wr.heap.size,0,none⟩) 2 2)) (.int .i64 key) (.slice H G c2) (.slice (some ⟨g,0,none⟩) n y) m):=by
 have s:∀O,PS k B R C v (wr.alloc O) key l b hs H G c2 (some ⟨g,0,none⟩) n y:=fun O=> h.below ((Below.refl _ _).alloc (Kaq _) O) L
 have J:∀O,∃a:List Hd,a.length=8∧(wr.alloc O).ownsRow C 47 Q0H.k (.slice (some ⟨c,0,none⟩) 8 w) 8 (a.flatMap Q0H.cs):=fun O=> by
  obtain ⟨I,p,a,A,d,z⟩:=(s O).gt.2 i hi
  have r:hv hs i=.slice I (b.getD i []).length p:=by unfold hv;rw [A]
  rw [f,(q.2.2 i hi).1] at r;injection r with q1 q2 q3;subst q1 q3;have j:=z.len;rw [(q.2.2 i hi).1] at j d;unfold ownL at d;rw [j] at d;exact ⟨a,j,d⟩
 refine ⟨fun O=> Q00 (s O).box 2 _ rfl,fun O=> by rw [←f];exact Q31 (s O).ow i (by rw [(s O).gt.1];exact hi), ?_,fun O=> ?_, ?_⟩
 ·obtain ⟨a,j,d⟩:=J (.cells #[.int .i64 x,.int .i64 1] 3)
  have z:ownL Q0H 47 (wr.alloc (.cells #[.int .i64 x,.int .i64 1] 3)) C (.slice (some ⟨c,0,none⟩) 8 w) a:=by unfold ownL;rw [j];exact d
  exact ⟨_,Q31 z 2 (by omega)⟩
 ·obtain ⟨a,j,d⟩:=J O
  exact World.ownsRow.frozenAt d 2
 ·have D:C≤wr.heap.size:=Kdq t (by obtain ⟨I,p,a,A,d,z⟩:=h.gt.2 i hi;have r:hv hs i=.slice I (b.getD i []).length p:=(by unfold hv;rw [A]);rw [f] at r;injection r with q1 _ _;subst q1;exact Nat.le_of_lt (d.lt c rfl).2)
  exact (s _).bend q j L M hi f (Q04 (Qgi wr x 1) D) E F t
theorem Qdq (k:Nat) (w:World) (hc:isCur k w) (J:k < w.heap.size):
  Calls Tryz.prog 82 #[.pointer (some ⟨k,0,none⟩)] w fun e w'=> ∃v m,e=.returned v∧RcPm w.heap.size w'.heap.size w' v m∧Q2f m∧Dr k w w':=by
 obtain ⟨W0,ap⟩:∃W,w.alloc (.cells #[.int .i64 0,.slice none 0 0,.slice none 0 0] 29)=W:=⟨_,rfl⟩;have aH:=alb0v0v1 ap;have an:=Q01 (show Dr k w W0 from ⟨hc.below (aH.mono J),by rw [←ap];exact Q0v w _ k⟩);have aF:Hid _:=alx0v0v1 ap;have F:=alz0v0v1 ap;clear aH hc;go_enter Tryz.func82,Tryz.ntmps82;go_wp2_with fail;refine (QcY k W0 an.out.cur (an.out.lt J)).mono ?_;rintro e w1 ⟨key,l,aC,hs,U,c2,oQ,u,rfl,az,ar,aD,aE,aM,ak⟩;obtain ⟨T,aq⟩:∃n,l.length=n:=⟨_,rfl⟩;obtain ⟨n,hn⟩:∃n,aC.length=n:=⟨_,rfl⟩;rw [aq] at aD ⊢;rw [hn] at aE ⊢;have G:=Q01 ar;have aU:=Q01 aq
 have HN:=Q01 hn
 have hL:l.length≤1000:=by omega
 have HL:=Q01 hL
 have aX:1≤n:=by rw [←hn];exact ar.1
 have aY:n≤3:=by rw [←hn];exact ar.2.1
 have aO:W0.heap.size≤w1.heap.size:=ak.gr.size;have ag:Below w1.heap.size w1 (w1.alloc (.cells #[.int .i64 key,.slice U T c2,.slice oQ n u] 29)):=(Below.refl _ _).alloc (Kaq _) _;have ao:=Q01 (show PS k w1.heap.size w.heap.size W0.heap.size w (w1.alloc (.cells #[.int .i64 key,.slice U T c2,.slice oQ n u] 29)) key l aC hs U T c2 oQ n u from ⟨aq.symm,World.alloc_heap_new w1 _,(ag.block _ (by omega)).trans (Q0a ak.gr F (by omega) aF.out),Q03 aD ag,Q03 aE ag,aM.kept ag,(an.out.step ak.cur ak.gr).below J (ag.mono (by omega))⟩)
 clear ag aD aE aM ak aF an aq hn ar hL az;go_wp2_with fail;generalize (w1.alloc (.cells #[.int .i64 key,.slice U T c2,.slice oQ n u] 29))=W2 at *;obtain ⟨B,hB⟩:∃B,w1.heap.size=B:=⟨_,rfl⟩;simp only [hB] at ao aO ⊢
 have z:B≠k:=by omega
 have C:w.heap.size≠k:=by omega
 have aw:w.heap.size≠B:=by omega
 have aB:w.heap.size≤B:=by omega
 have A:k < W0.heap.size:=by omega
 clear hB;refine (Q1t k 8 W2 ao.out.dr.cur (by decide) (by decide)).mono ?_;rintro e w3 ⟨aT,rfl,aI,aK⟩;have ah:=Q01 (ao.out.draw aI aK z C A);clear aI aK ao
 cases aT with
 |false=>
  have d:=Q01 (ah.out.end0 G.out HL.out);have z0:w3.cell? ⟨B,0,none⟩=some (.int .i64 key):=Q00 d.out.box 0 _ rfl;have z1:w3.cell? ⟨B,1,none⟩=some (.slice U T c2):=Q00 d.out.box 1 _ rfl;have z2:w3.cell? ⟨B,2,none⟩=some (.slice oQ n u):=Q00 d.out.box 2 _ rfl;have r0:w3.cell? ⟨w.heap.size,0,none⟩=some (.int .i64 0):=Q00 d.out.res 0 _ rfl;have ad:w3.frozen? ⟨w.heap.size,0,none⟩=false:=Q02 d.out.res 0;have r1:w3.cell? ⟨w.heap.size,1,none⟩=some (.slice none 0 0):=Q00 d.out.res 1 _ rfl;have ae:w3.frozen? ⟨w.heap.size,1,none⟩=false:=Q02 d.out.res 1
  have r2:w3.cell? ⟨w.heap.size,2,none⟩=some (.slice none 0 0):=Q00 d.out.res 2 _ rfl;have af:w3.frozen? ⟨w.heap.size,2,none⟩=false:=Q02 d.out.res 2;have t:=Q01 (d.out.done J F);clear ah d;go_wp2;refine bodyPost_ret (v:=.agg #[.int .i64 key,.slice U T c2,.slice oQ n u]) (by simp [results,Tryz.results82,go_sem,r0,r1,r2]) rfl ⟨_,_,rfl,t.out.1,t.out.2.1,t.out.2.2⟩
 |true=>
  go_wp2_with fail;refine (Q0o k 4 w3 ah.out.dr.cur (by decide) (by decide)).mono ?_;rintro e j ⟨x,rfl,a0,a1,aJ,aL⟩;have b:=Q01 (ah.out.draw aJ aL z C A);clear aJ aL ah
  by_cases e0:x=0
  ·subst e0
   go_wp2_with fail;refine (Q24 k [-1,1000000,3] j b.out.dr.cur (b.out.dr.lt J) (by simp) (by simp)).mono ?_;rintro e a ⟨y,_,rfl,p,q⟩;have s:=Q01 (b.out.draw p q z C A);have d:=Q01 (s.out.key G.out HL.out J aB aw y);have y2:a.cell? ⟨B,0,none⟩=some (.int .i64 key):=Q00 s.out.box 0 _ rfl;have aG:a.frozen? ⟨B,0,none⟩=false:=Q02 s.out.box 0;have q0:(a.setCell ⟨B,0,none⟩ (.int .i64 y)).cell? ⟨B,0,none⟩=some (.int .i64 y):=Q00 d.out.box 0 _ rfl;have q1:(a.setCell ⟨B,0,none⟩ (.int .i64 y)).cell? ⟨B,1,none⟩=some (.slice U T c2):=Q00 d.out.box 1 _ rfl
   have q2:(a.setCell ⟨B,0,none⟩ (.int .i64 y)).cell? ⟨B,2,none⟩=some (.slice oQ n u):=Q00 d.out.box 2 _ rfl;have r0:(a.setCell ⟨B,0,none⟩ (.int .i64 y)).cell? ⟨w.heap.size,0,none⟩=some (.int .i64 0):=Q00 d.out.res 0 _ rfl;have ad:(a.setCell ⟨B,0,none⟩ (.int .i64 y)).frozen? ⟨w.heap.size,0,none⟩=false:=Q02 d.out.res 0;have r1:(a.setCell ⟨B,0,none⟩ (.int .i64 y)).cell? ⟨w.heap.size,1,none⟩=some (.slice none 0 0):=Q00 d.out.res 1 _ rfl;have ae:(a.setCell ⟨B,0,none⟩ (.int .i64 y)).frozen? ⟨w.heap.size,1,none⟩=false:=Q02 d.out.res 1
   have r2:(a.setCell ⟨B,0,none⟩ (.int .i64 y)).cell? ⟨w.heap.size,2,none⟩=some (.slice none 0 0):=Q00 d.out.res 2 _ rfl;have af:(a.setCell ⟨B,0,none⟩ (.int .i64 y)).frozen? ⟨w.heap.size,2,none⟩=false:=Q02 d.out.res 2;have t:=Q01 (d.out.done J F);clear b s d;go_wp2;refine bodyPost_ret (v:=.agg #[.int .i64 y,.slice U T c2,.slice oQ n u]) (by simp [results,Tryz.results82,go_sem,r0,r1,r2]) rfl ⟨_,_,rfl,t.out.1,t.out.2.1,t.out.2.2⟩
  by_cases e1:x=1
  ·subst e1
   go_wp2_with fail;refine (QcH k j b.out.dr.cur (b.out.dr.lt J)).mono ?_;rintro e a ⟨v5,L5,rfl,au,aN,p,q⟩;obtain ⟨o5,c5,e5,_⟩:=ownL.open (L:=Q1b) au;subst e5;obtain ⟨m5,aA⟩:∃m,L5.length=m:=⟨_,rfl⟩;rw [aA] at aN au ⊢;have s:=Q01 (b.out.draw p q z C A);have d:=Q01 (s.out.backs G.out aN aA.symm J aB aw (Kdq aO (Nat.le_of_lt (Array.getElem?_eq_some_iff.1 b.out.box).1)) au);clear au aA;have y2:a.cell? ⟨B,1,none⟩=some (.slice U T c2):=Q00 s.out.box 1 _ rfl;have aG:a.frozen? ⟨B,1,none⟩=false:=Q02 s.out.box 1
   have q0:(a.setCell ⟨B,1,none⟩ (.slice o5 m5 c5)).cell? ⟨B,0,none⟩=some (.int .i64 key):=Q00 d.out.box 0 _ rfl;have q1:(a.setCell ⟨B,1,none⟩ (.slice o5 m5 c5)).cell? ⟨B,1,none⟩=some (.slice o5 m5 c5):=Q00 d.out.box 1 _ rfl;have q2:(a.setCell ⟨B,1,none⟩ (.slice o5 m5 c5)).cell? ⟨B,2,none⟩=some (.slice oQ n u):=Q00 d.out.box 2 _ rfl;have r0:(a.setCell ⟨B,1,none⟩ (.slice o5 m5 c5)).cell? ⟨w.heap.size,0,none⟩=some (.int .i64 0):=Q00 d.out.res 0 _ rfl;have ad:(a.setCell ⟨B,1,none⟩ (.slice o5 m5 c5)).frozen? ⟨w.heap.size,0,none⟩=false:=Q02 d.out.res 0
   have r1:(a.setCell ⟨B,1,none⟩ (.slice o5 m5 c5)).cell? ⟨w.heap.size,1,none⟩=some (.slice none 0 0):=Q00 d.out.res 1 _ rfl;have ae:(a.setCell ⟨B,1,none⟩ (.slice o5 m5 c5)).frozen? ⟨w.heap.size,1,none⟩=false:=Q02 d.out.res 1;have r2:(a.setCell ⟨B,1,none⟩ (.slice o5 m5 c5)).cell? ⟨w.heap.size,2,none⟩=some (.slice none 0 0):=Q00 d.out.res 2 _ rfl;have af:(a.setCell ⟨B,1,none⟩ (.slice o5 m5 c5)).frozen? ⟨w.heap.size,2,none⟩=false:=Q02 d.out.res 2;have t:=Q01 (d.out.done J F);clear b s d;go_wp2
   refine bodyPost_ret (v:=.agg #[.int .i64 key,.slice o5 m5 c5,.slice oQ n u]) (by simp [results,Tryz.results82,go_sem,r0,r1,r2]) rfl ⟨_,_,rfl,t.out.1,t.out.2.1,t.out.2.2⟩
  by_cases e2:x=2
  ·subst e2
   have s:=b;have d:=Q01 (s.out.nil HL.out J aB aw);have y2:j.cell? ⟨B,2,none⟩=some (.slice oQ n u):=Q00 s.out.box 2 _ rfl;have aG:j.frozen? ⟨B,2,none⟩=false:=Q02 s.out.box 2;have q0:(j.setCell ⟨B,2,none⟩ (.slice none 0 0)).cell? ⟨B,0,none⟩=some (.int .i64 key):=Q00 d.out.box 0 _ rfl;have q1:(j.setCell ⟨B,2,none⟩ (.slice none 0 0)).cell? ⟨B,1,none⟩=some (.slice U T c2):=Q00 d.out.box 1 _ rfl;have q2:(j.setCell ⟨B,2,none⟩ (.slice none 0 0)).cell? ⟨B,2,none⟩=some (.slice none 0 0):=Q00 d.out.box 2 _ rfl
   have r0:(j.setCell ⟨B,2,none⟩ (.slice none 0 0)).cell? ⟨w.heap.size,0,none⟩=some (.int .i64 0):=Q00 d.out.res 0 _ rfl;have ad:(j.setCell ⟨B,2,none⟩ (.slice none 0 0)).frozen? ⟨w.heap.size,0,none⟩=false:=Q02 d.out.res 0;have r1:(j.setCell ⟨B,2,none⟩ (.slice none 0 0)).cell? ⟨w.heap.size,1,none⟩=some (.slice none 0 0):=Q00 d.out.res 1 _ rfl;have ae:(j.setCell ⟨B,2,none⟩ (.slice none 0 0)).frozen? ⟨w.heap.size,1,none⟩=false:=Q02 d.out.res 1;have r2:(j.setCell ⟨B,2,none⟩ (.slice none 0 0)).cell? ⟨w.heap.size,2,none⟩=some (.slice none 0 0):=Q00 d.out.res 2 _ rfl
   have af:(j.setCell ⟨B,2,none⟩ (.slice none 0 0)).frozen? ⟨w.heap.size,2,none⟩=false:=Q02 d.out.res 2;have t:=Q01 (d.out.done J F);clear b s d;go_wp2;refine bodyPost_ret (v:=.agg #[.int .i64 key,.slice U T c2,.slice none 0 0]) (by simp [results,Tryz.results82,go_sem,r0,r1,r2]) rfl ⟨_,_,rfl,t.out.1,t.out.2.1,t.out.2.2⟩
  ·have ab:Hid (isCur k j):=b.out.dr.cur
   have ac:Hid (k < j.heap.size):=b.out.dr.lt J;obtain ⟨g,cg,aS⟩:=Q2R b.out.ow (by rw [b.out.gt.1,HN.out];omega);injection aS with ho1 hA1 hA2;clear hA1 hA2;subst ho1;obtain ⟨i,hi⟩:∃i,n=i+1:=⟨n - 1,by omega⟩
   have I:i < aC.length:=by rw [HN.out];omega
   obtain ⟨o3,c3,aZ,e3,k1,k2⟩:=b.out.gt.2 i I;rw [(G.out.2.2 i I).1] at e3 k1 k2;obtain ⟨f,aV,aR⟩:=Q2R k1 (by rw [k2.len];decide);injection aR with ho3 hA1 hA2;clear hA1 hA2;subst ho3;have ay:W0.heap.size≤g∧g < j.heap.size:=b.out.ow.lt g rfl;have am:W0.heap.size≤f∧f < j.heap.size:=k1.lt f rfl
   have H:f≠B:=by
    rcases Q1V k1 b.out.box Qi7 with h|h
    ·cases h
    ·exact fun e=> h (by rw [e];rfl)
   have aW:g≠B:=by
    rcases Q1V b.out.ow b.out.box QaQ with h|h
    ·cases h
    ·exact fun e=> h (by rw [e];rfl)
   have aa:hv hs i=.slice (some ⟨f,0,none⟩) 8 c3:=by unfold hv;rw [e3]
   have z2:j.cell? ⟨B,2,none⟩=some (.slice (some ⟨g,0,none⟩) n u):=Q00 b.out.box 2 _ rfl
   have zc:j.cell? ⟨g,i,none⟩=some (.slice (some ⟨f,0,none⟩) 8 c3):=by rw [←aa];exact Q31 b.out.ow i (by rw [b.out.gt.1];exact I)
   have aQ:f≠g:=by
    rcases Q2u k1 b.out.ow Qij with h|h
    ·cases h
    ·exact fun e=> h (by rw [e];rfl)
   clear k1 k2 e3;have av:B < j.heap.size:=(Array.getElem?_eq_some_iff.1 b.out.box).1
   have al:f≠w.heap.size:=by omega
   have ax:f≠g:=aQ
   obtain ⟨rfl,rfl⟩|⟨rfl,rfl⟩|⟨rfl,rfl⟩:(i=0∧n=1)∨(i=1∧n=2)∨(i=2∧n=3):=by omega
   ·have M:Hid (Calls Tryz.prog 55 #[.pointer (some ⟨k,0,none⟩),.slice (some ⟨j.heap.size,0,none⟩) 3 3] (j.alloc (.cells #[.int .i64 (-1),.int .i64 0,.int .i64 6] 3)).drew fun e w'=> ∃x,x∈([-1,0,6]:List Int)∧e=.returned (.int .i64 x)∧isCur k w'∧j.grownBy w' (some k)):=Q78 k [-1,0,6] j ab.out ac.out (by decide) (by decide)
    have X:j.drew.cell? ⟨B,2,none⟩=some (.slice (some ⟨g,0,none⟩) 1 u):=z2;have Z:j.drew.cell? ⟨g,0,none⟩=some (.slice (some ⟨f,0,none⟩) 8 c3):=zc
    have V:∀O,(j.alloc O).cell? ⟨B,2,none⟩=some (.slice (some ⟨g,0,none⟩) 1 u):=fun O=> bC ((Below.refl _ _).alloc (Kaq _) O) z2 av
    have Y:∀O,(j.alloc O).cell? ⟨g,0,none⟩=some (.slice (some ⟨f,0,none⟩) 8 c3):=fun O=> bC ((Below.refl _ _).alloc (Kaq _) O) zc ay.2
    have aP:IntKind.i64.wrap 0=0:=by first|rfl|decide
    go_wp2
    go_region_held3 (fun w'=> w'.cell? ⟨B,2,none⟩=some (.slice (some ⟨g,0,none⟩) 1 u)∧w'.cell? ⟨g,0,none⟩=some (.slice (some ⟨f,0,none⟩) 8 c3)) (first|with_reducible exact ⟨z2,zc⟩|with_reducible exact ⟨X,Z⟩|with_reducible exact ⟨V _,Y _⟩|with_reducible exact ⟨y2,yc⟩|with_reducible exact ⟨D _,E _⟩|with_reducible exact P _ _|go_keep) (first|(go_at_call 55;refine (M.out).mono ?_;rintro e a ⟨r,R,rfl,p,q⟩;clear R;have J5:=b.out.draw p q z C A;have y2:=QdR b.out p q z C A;have yc:=Qdt b.out p q z C A I aa;obtain ⟨D,E,⟨u3,aj⟩,ai,N⟩:=QdF J5 I aa G.out HL.out J (Nat.le_of_lt F) H al am.1 r;have P:=Qdw H ax D E;clear p q))
    obtain ⟨m9,c⟩:=N.out;have q0:((a.alloc (.cells #[.int .i64 r,.int .i64 1] 3)).setCell ⟨f,2,none⟩ (.slice (some ⟨a.heap.size,0,none⟩) 2 2)).cell? ⟨B,0,none⟩=some (.int .i64 key):=Q00 c.box 0 _ rfl;have q1:((a.alloc (.cells #[.int .i64 r,.int .i64 1] 3)).setCell ⟨f,2,none⟩ (.slice (some ⟨a.heap.size,0,none⟩) 2 2)).cell? ⟨B,1,none⟩=some (.slice U T c2):=Q00 c.box 1 _ rfl;have q2:((a.alloc (.cells #[.int .i64 r,.int .i64 1] 3)).setCell ⟨f,2,none⟩ (.slice (some ⟨a.heap.size,0,none⟩) 2 2)).cell? ⟨B,2,none⟩=some (.slice (some ⟨g,0,none⟩) 1 u):=Q00 c.box 2 _ rfl
    have r0:((a.alloc (.cells #[.int .i64 r,.int .i64 1] 3)).setCell ⟨f,2,none⟩ (.slice (some ⟨a.heap.size,0,none⟩) 2 2)).cell? ⟨w.heap.size,0,none⟩=some (.int .i64 0):=Q00 c.res 0 _ rfl;have ad:((a.alloc (.cells #[.int .i64 r,.int .i64 1] 3)).setCell ⟨f,2,none⟩ (.slice (some ⟨a.heap.size,0,none⟩) 2 2)).frozen? ⟨w.heap.size,0,none⟩=false:=Q02 c.res 0;have r1:((a.alloc (.cells #[.int .i64 r,.int .i64 1] 3)).setCell ⟨f,2,none⟩ (.slice (some ⟨a.heap.size,0,none⟩) 2 2)).cell? ⟨w.heap.size,1,none⟩=some (.slice none 0 0):=Q00 c.res 1 _ rfl
    have ae:((a.alloc (.cells #[.int .i64 r,.int .i64 1] 3)).setCell ⟨f,2,none⟩ (.slice (some ⟨a.heap.size,0,none⟩) 2 2)).frozen? ⟨w.heap.size,1,none⟩=false:=Q02 c.res 1;have r2:((a.alloc (.cells #[.int .i64 r,.int .i64 1] 3)).setCell ⟨f,2,none⟩ (.slice (some ⟨a.heap.size,0,none⟩) 2 2)).cell? ⟨w.heap.size,2,none⟩=some (.slice none 0 0):=Q00 c.res 2 _ rfl;have af:((a.alloc (.cells #[.int .i64 r,.int .i64 1] 3)).setCell ⟨f,2,none⟩ (.slice (some ⟨a.heap.size,0,none⟩) 2 2)).frozen? ⟨w.heap.size,2,none⟩=false:=Q02 c.res 2;have t:=Q01 (c.done J F)
    clear b c N D E aj ai P J5 y2 yc z2 zc V Y X Z M G HN ab ac;go_wp2;refine bodyPost_ret (v:=.agg #[.int .i64 key,.slice U T c2,.slice (some ⟨g,0,none⟩) 1 u]) (by simp [results,Tryz.results82,go_sem,r0,r1,r2]) rfl ⟨_,_,rfl,t.out.1,t.out.2.1,t.out.2.2⟩
   ·have M:Hid (Calls Tryz.prog 55 #[.pointer (some ⟨k,0,none⟩),.slice (some ⟨j.heap.size,0,none⟩) 3 3] (j.alloc (.cells #[.int .i64 (-1),.int .i64 0,.int .i64 6] 3)).drew fun e w'=> ∃x,x∈([-1,0,6]:List Int)∧e=.returned (.int .i64 x)∧isCur k w'∧j.grownBy w' (some k)):=Q78 k [-1,0,6] j ab.out ac.out (by decide) (by decide)
    have X:j.drew.cell? ⟨B,2,none⟩=some (.slice (some ⟨g,0,none⟩) 2 u):=z2;have Z:j.drew.cell? ⟨g,1,none⟩=some (.slice (some ⟨f,0,none⟩) 8 c3):=zc
    have V:∀O,(j.alloc O).cell? ⟨B,2,none⟩=some (.slice (some ⟨g,0,none⟩) 2 u):=fun O=> bC ((Below.refl _ _).alloc (Kaq _) O) z2 av
    have Y:∀O,(j.alloc O).cell? ⟨g,1,none⟩=some (.slice (some ⟨f,0,none⟩) 8 c3):=fun O=> bC ((Below.refl _ _).alloc (Kaq _) O) zc ay.2
    have aP:IntKind.i64.wrap 1=1:=by first|rfl|decide
    go_wp2
    go_region_held3 (fun w'=> w'.cell? ⟨B,2,none⟩=some (.slice (some ⟨g,0,none⟩) 2 u)∧w'.cell? ⟨g,1,none⟩=some (.slice (some ⟨f,0,none⟩) 8 c3)) (first|with_reducible exact ⟨z2,zc⟩|with_reducible exact ⟨X,Z⟩|with_reducible exact ⟨V _,Y _⟩|with_reducible exact ⟨y2,yc⟩|with_reducible exact ⟨D _,E _⟩|with_reducible exact P _ _|go_keep) (first|(go_at_call 55;refine (M.out).mono ?_;rintro e a ⟨r,R,rfl,p,q⟩;clear R;have J5:=b.out.draw p q z C A;have y2:=QdR b.out p q z C A;have yc:=Qdt b.out p q z C A I aa;obtain ⟨D,E,⟨u3,aj⟩,ai,N⟩:=QdF J5 I aa G.out HL.out J (Nat.le_of_lt F) H al am.1 r;have P:=Qdw H ax D E;clear p q))
    obtain ⟨m9,c⟩:=N.out;have q0:((a.alloc (.cells #[.int .i64 r,.int .i64 1] 3)).setCell ⟨f,2,none⟩ (.slice (some ⟨a.heap.size,0,none⟩) 2 2)).cell? ⟨B,0,none⟩=some (.int .i64 key):=Q00 c.box 0 _ rfl;have q1:((a.alloc (.cells #[.int .i64 r,.int .i64 1] 3)).setCell ⟨f,2,none⟩ (.slice (some ⟨a.heap.size,0,none⟩) 2 2)).cell? ⟨B,1,none⟩=some (.slice U T c2):=Q00 c.box 1 _ rfl;have q2:((a.alloc (.cells #[.int .i64 r,.int .i64 1] 3)).setCell ⟨f,2,none⟩ (.slice (some ⟨a.heap.size,0,none⟩) 2 2)).cell? ⟨B,2,none⟩=some (.slice (some ⟨g,0,none⟩) 2 u):=Q00 c.box 2 _ rfl
    have r0:((a.alloc (.cells #[.int .i64 r,.int .i64 1] 3)).setCell ⟨f,2,none⟩ (.slice (some ⟨a.heap.size,0,none⟩) 2 2)).cell? ⟨w.heap.size,0,none⟩=some (.int .i64 0):=Q00 c.res 0 _ rfl;have ad:((a.alloc (.cells #[.int .i64 r,.int .i64 1] 3)).setCell ⟨f,2,none⟩ (.slice (some ⟨a.heap.size,0,none⟩) 2 2)).frozen? ⟨w.heap.size,0,none⟩=false:=Q02 c.res 0;have r1:((a.alloc (.cells #[.int .i64 r,.int .i64 1] 3)).setCell ⟨f,2,none⟩ (.slice (some ⟨a.heap.size,0,none⟩) 2 2)).cell? ⟨w.heap.size,1,none⟩=some (.slice none 0 0):=Q00 c.res 1 _ rfl
    have ae:((a.alloc (.cells #[.int .i64 r,.int .i64 1] 3)).setCell ⟨f,2,none⟩ (.slice (some ⟨a.heap.size,0,none⟩) 2 2)).frozen? ⟨w.heap.size,1,none⟩=false:=Q02 c.res 1;have r2:((a.alloc (.cells #[.int .i64 r,.int .i64 1] 3)).setCell ⟨f,2,none⟩ (.slice (some ⟨a.heap.size,0,none⟩) 2 2)).cell? ⟨w.heap.size,2,none⟩=some (.slice none 0 0):=Q00 c.res 2 _ rfl;have af:((a.alloc (.cells #[.int .i64 r,.int .i64 1] 3)).setCell ⟨f,2,none⟩ (.slice (some ⟨a.heap.size,0,none⟩) 2 2)).frozen? ⟨w.heap.size,2,none⟩=false:=Q02 c.res 2;have t:=Q01 (c.done J F)
    clear b c N D E aj ai P J5 y2 yc z2 zc V Y X Z M G HN ab ac;go_wp2;refine bodyPost_ret (v:=.agg #[.int .i64 key,.slice U T c2,.slice (some ⟨g,0,none⟩) 2 u]) (by simp [results,Tryz.results82,go_sem,r0,r1,r2]) rfl ⟨_,_,rfl,t.out.1,t.out.2.1,t.out.2.2⟩
   ·have M:Hid (Calls Tryz.prog 55 #[.pointer (some ⟨k,0,none⟩),.slice (some ⟨j.heap.size,0,none⟩) 3 3] (j.alloc (.cells #[.int .i64 (-1),.int .i64 0,.int .i64 6] 3)).drew fun e w'=> ∃x,x∈([-1,0,6]:List Int)∧e=.returned (.int .i64 x)∧isCur k w'∧j.grownBy w' (some k)):=Q78 k [-1,0,6] j ab.out ac.out (by decide) (by decide)
    have X:j.drew.cell? ⟨B,2,none⟩=some (.slice (some ⟨g,0,none⟩) 3 u):=z2;have Z:j.drew.cell? ⟨g,2,none⟩=some (.slice (some ⟨f,0,none⟩) 8 c3):=zc
    have V:∀O,(j.alloc O).cell? ⟨B,2,none⟩=some (.slice (some ⟨g,0,none⟩) 3 u):=fun O=> bC ((Below.refl _ _).alloc (Kaq _) O) z2 av
    have Y:∀O,(j.alloc O).cell? ⟨g,2,none⟩=some (.slice (some ⟨f,0,none⟩) 8 c3):=fun O=> bC ((Below.refl _ _).alloc (Kaq _) O) zc ay.2
    have aP:IntKind.i64.wrap 2=2:=by first|rfl|decide
    go_wp2
    go_region_held3 (fun w'=> w'.cell? ⟨B,2,none⟩=some (.slice (some ⟨g,0,none⟩) 3 u)∧w'.cell? ⟨g,2,none⟩=some (.slice (some ⟨f,0,none⟩) 8 c3)) (first|with_reducible exact ⟨z2,zc⟩|with_reducible exact ⟨X,Z⟩|with_reducible exact ⟨V _,Y _⟩|with_reducible exact ⟨y2,yc⟩|with_reducible exact ⟨D _,E _⟩|with_reducible exact P _ _|go_keep) (first|(go_at_call 55;refine (M.out).mono ?_;rintro e a ⟨r,R,rfl,p,q⟩;clear R;have J5:=b.out.draw p q z C A;have y2:=QdR b.out p q z C A;have yc:=Qdt b.out p q z C A I aa;obtain ⟨D,E,⟨u3,aj⟩,ai,N⟩:=QdF J5 I aa G.out HL.out J (Nat.le_of_lt F) H al am.1 r;have P:=Qdw H ax D E;clear p q))
    obtain ⟨m9,c⟩:=N.out;have q0:((a.alloc (.cells #[.int .i64 r,.int .i64 1] 3)).setCell ⟨f,2,none⟩ (.slice (some ⟨a.heap.size,0,none⟩) 2 2)).cell? ⟨B,0,none⟩=some (.int .i64 key):=Q00 c.box 0 _ rfl;have q1:((a.alloc (.cells #[.int .i64 r,.int .i64 1] 3)).setCell ⟨f,2,none⟩ (.slice (some ⟨a.heap.size,0,none⟩) 2 2)).cell? ⟨B,1,none⟩=some (.slice U T c2):=Q00 c.box 1 _ rfl;have q2:((a.alloc (.cells #[.int .i64 r,.int .i64 1] 3)).setCell ⟨f,2,none⟩ (.slice (some ⟨a.heap.size,0,none⟩) 2 2)).cell? ⟨B,2,none⟩=some (.slice (some ⟨g,0,none⟩) 3 u):=Q00 c.box 2 _ rfl
    have r0:((a.alloc (.cells #[.int .i64 r,.int .i64 1] 3)).setCell ⟨f,2,none⟩ (.slice (some ⟨a.heap.size,0,none⟩) 2 2)).cell? ⟨w.heap.size,0,none⟩=some (.int .i64 0):=Q00 c.res 0 _ rfl;have ad:((a.alloc (.cells #[.int .i64 r,.int .i64 1] 3)).setCell ⟨f,2,none⟩ (.slice (some ⟨a.heap.size,0,none⟩) 2 2)).frozen? ⟨w.heap.size,0,none⟩=false:=Q02 c.res 0;have r1:((a.alloc (.cells #[.int .i64 r,.int .i64 1] 3)).setCell ⟨f,2,none⟩ (.slice (some ⟨a.heap.size,0,none⟩) 2 2)).cell? ⟨w.heap.size,1,none⟩=some (.slice none 0 0):=Q00 c.res 1 _ rfl
    have ae:((a.alloc (.cells #[.int .i64 r,.int .i64 1] 3)).setCell ⟨f,2,none⟩ (.slice (some ⟨a.heap.size,0,none⟩) 2 2)).frozen? ⟨w.heap.size,1,none⟩=false:=Q02 c.res 1;have r2:((a.alloc (.cells #[.int .i64 r,.int .i64 1] 3)).setCell ⟨f,2,none⟩ (.slice (some ⟨a.heap.size,0,none⟩) 2 2)).cell? ⟨w.heap.size,2,none⟩=some (.slice none 0 0):=Q00 c.res 2 _ rfl;have af:((a.alloc (.cells #[.int .i64 r,.int .i64 1] 3)).setCell ⟨f,2,none⟩ (.slice (some ⟨a.heap.size,0,none⟩) 2 2)).frozen? ⟨w.heap.size,2,none⟩=false:=Q02 c.res 2;have t:=Q01 (c.done J F)
    clear b c N D E aj ai P J5 y2 yc z2 zc V Y X Z M G HN ab ac;go_wp2;refine bodyPost_ret (v:=.agg #[.int .i64 key,.slice U T c2,.slice (some ⟨g,0,none⟩) 3 u]) (by simp [results,Tryz.results82,go_sem,r0,r1,r2]) rfl ⟨_,_,rfl,t.out.1,t.out.2.1,t.out.2.2⟩
theorem Qe8 (a:List Int) (x y:Int):y∈Q7i a x↔y∈a∨y=x:=by
 unfold Q7i
 by_cases h:a.contains x=true
 ·rw [if_pos h]
  have b:x∈a:=by simpa using h
  exact ⟨fun h=> .inl h,fun h=> h.elim id (fun e=> by rw [e];exact b)⟩
 ·rw [if_neg h];simp
theorem QcJ (l:List Int):∀(b:List Int) (y:Int),y∈Q2e b l↔y∈b∨y∈l:=by
 induction l with
 |nil=> intro b y;simp [Q2e]
 |cons a l ih=>
  intro b y
  show y∈Q2e (Q7i b a) l↔_
  rw [ih,Qe8];simp [or_assoc]
theorem QaR (b:Nat) (R:List (List (List Int))):∀(c:List Int) (y:Int),y∈R.foldl (fun c t=> Q2e c (t.getD b [])) c↔y∈c∨∃t∈R,y∈t.getD b []:=by
 induction R with
 |nil=> intro c y;simp
 |cons a R ih=>
  intro c y;rw [List.foldl_cons,ih,QcJ]
  constructor
  ·rintro ((h|h)|⟨t,d,h2⟩)
   ·exact .inl h
   ·exact .inr ⟨a,by simp,h⟩
   ·exact .inr ⟨t,by simp [d],h2⟩
  ·rintro (h|⟨t,d,h2⟩)
   ·exact .inl (.inl h)
   ·rcases List.mem_cons.1 d with e|d
    ·subst e;exact .inl (.inr h2)
    ·exact .inr ⟨t,d,h2⟩
theorem QbC {c:List Int} (x:Int) (h:c.Nodup):(Q7i c x).Nodup:=by
 unfold Q7i
 by_cases hc:c.contains x=true
 ·rw [if_pos hc];exact h
 ·rw [if_neg hc]
  have g:x∉c:=by simpa using hc
  rw [List.nodup_append];exact ⟨h,by simp,fun a f b d e=> by simp at d;subst d;subst e;exact g f⟩
theorem Qat (l:List Int):∀{out:List Int},out.Nodup→(Q2e out l).Nodup:=by
 induction l with
 |nil=> intro out h;exact h
 |cons a l ih=> intro out h;exact ih (QbC a h)
theorem Q51 (b:Nat) (R:List (List (List Int))):∀{c:List Int},c.Nodup→(R.foldl (fun c t=> Q2e c (t.getD b [])) c).Nodup:=by
 induction R with
 |nil=> intro c h;exact h
 |cons a R ih=> intro c h;exact ih (Qat _ h)
theorem Q99:∀(n:Nat) (l:List Int),l.Nodup→(∀x∈l,0≤x∧x < (n:Int))→l.length≤n
 |0,l,_,h=> by
  cases l with
  |nil=> simp
  |cons a l=> have:=h a (by simp);omega
 |n+1,l,hd,h=> by
  by_cases hn:((n:Int))∈l
  ·have f:=Q99 n (l.erase (n:Int)) (hd.erase _) (fun x c=> by
    have b:=(List.Nodup.mem_erase_iff hd).1 c;have:=h x b.2;have d:=b.1
    omega)
   rw [List.length_erase_of_mem hn] at f;omega
  ·have f:=Q99 n l hd (fun x c=> by
    have:=h x c
    have d:x≠(n:Int):=fun e=> hn (e ▸ c)
    omega)
   omega
theorem Qgc {l:List Int} (h:Q0I l=true):∀x∈l,0≤x∧x < 6:=by
 intro x c;obtain ⟨j,a,rfl⟩:=List.getElem_of_mem c
 cases hid:idB (l[j]) with
 |true=> unfold idB at hid;simp at hid;omega
 |false=>
  have b:=Q8v (l:=l) a (by rw [List.getD_eq_getElem?_getD,List.getElem?_eq_getElem a];exact hid);rw [b] at h
  cases h
theorem RiV.grow {α:Type} {L:Lay α} {a b:Nat} {w d:World} {v:Value} {l:List α} {r:Option Nat} (h:RiV L a b w v l) (c:w.grownBy d r) (f:∀g,r=some g→g < a∨b≤g):RiV L a b d v l:=by
 cases r with
 |none=> exact h.step (Stp.grown (lo:=0) (hi:=0) c (fun b e=> by cases e)) (.inl (Kcq _))
 |some g=> exact h.step (Stp.grown (lo:=g) (hi:=g+1) c (fun b e=> by injection e with e;omega)) (by have:=f g rfl;omega)
theorem Qgz (f:Pt) (b:Nat) (h:b < 8):(ptA f)[b * 3]? =some (.bool (f b).1)∧(ptA f)[b * 3+1]? =some (.int .i64 (f b).2.1)∧(ptA f)[b * 3+2]? =some (.int .i64 (f b).2.2):=by
 have a:∀j,j < 3→(ptA f)[b * 3+j]? =(Qfs.cs (((List.range 8).map f).getD b Qfs.d))[j]? :=fun j c=> by
  have:=Q4M Qfs ((List.range 8).map f) b j (by simpa using h) c;rw [show Qfs.k=3 from rfl] at this;unfold ptA ptL;rw [List.getElem?_toArray];exact this
 have e:((List.range 8).map f).getD b Qfs.d=f b:=by simp [h]
 rw [e] at a;exact ⟨a 0 (by decide),a 1 (by decide),a 2 (by decide)⟩
theorem Qh6 (R:List (List (List Int))) (i:Nat) (h:i < R.length):(R.map Q38).getD i ptZ=Q38 (R.getD i []):=by simp [h]
theorem Q68 (v:Value) (m:Pm) (q:Int) (w:World) (hR:Q60 w.heap.size w v m) (hf:Q2f m):
  Calls Tryz.prog 92 #[v,.int .i64 q] w fun e w'=> ∃v',e=.returned v'∧Q8j w' w.heap.size v' (Q6L m q)∧Below w.heap.size w w':=by
 have s:=Q01 (show Q6L m q=if (Q1F m && decide (0≤q) && decide (q < 8))=true then Q1R m.ring q.toNat else [] from rfl);have am:=Q01 (fun h:Q1F m=true=> Q1e h);obtain ⟨vb,vr,rfl,aC,rr⟩:=hR;obtain ⟨o,c,rfl,r⟩:=aC.open;obtain ⟨oR,cR,rfl⟩:=RiR.len rr;obtain ⟨key,l,a⟩:=m;dsimp only at *;clear aC;obtain ⟨W0,af⟩:∃W,(w.alloc (.cells #[.int .i64 key,.slice o l.length c,.slice oR a.length cR] 29))=W:=⟨_,rfl⟩;have B:=alb0v0v1 af;have X:=Q01 B;clear B;have zz:=alz0v0v1 af;obtain ⟨z0,z1,z2⟩:=alc3v0v1 af
 have au:=Q01 (Q7t key o c l oR cR a a.length rfl W0 ((r.kept X.out (Kaq _)).le X.out.size) (RiR.mon.go (RiR.stp.go rr (Stp.of (lo:=0) (hi:=0) X.out) (.inl (Kcq _))) (Kaq _) X.out.size) hf);have u:=Q01 (fun W=> Q2v q W);clear r rr;go_enter Tryz.func92,Tryz.ntmps92;go_wp2_with fail;refine au.out.mono ?_;rintro e v1 ⟨vP,rfl,h1,h2,hb⟩;have p:=Q01 (X.out.trans (hb.mono X.out.size));clear hb au X z0 z1 z2 zz
 cases hp:Q1F ⟨key,l,a⟩ with
 |false=>
  rw [hp] at s;have e2:=h2 hp;subst e2;clear h1 h2;go_wp2;go_ret;exact ⟨_,rfl,by rw [s.out];exact World.ownsRow_nil _ _ _ _,p.out.alloc p.out.size _⟩
 |true=>
  rw [hp] at s;obtain ⟨o2,c2,e2,U⟩:=h1 hp;have HF:=Q01 (am.out hp);subst e2;have aK:=Q01 (ownL.rds (L:=Q1Z) U);clear h1 h2 am U hp
  by_cases h0:q < 0
  ·have T:(decide (0≤q) && decide (q < 8))=false:=by simp;omega
   rw [T] at u;clear T;go_wp2_with (first|(go_at_call 143;refine (u.out _).mono ?_;rintro e w1 ⟨rfl,rfl⟩));go_ret;exact ⟨_,rfl,by rw [s.out,if_neg (by simp;omega)];exact World.ownsRow_nil _ _ _ _,p.out.alloc p.out.size _⟩
  by_cases h8:8≤q
  ·have T:(decide (0≤q) && decide (q < 8))=false:=by simp;omega
   rw [T] at u;clear T;go_wp2_with (first|(go_at_call 143;refine (u.out _).mono ?_;rintro e w1 ⟨rfl,rfl⟩));go_ret;exact ⟨_,rfl,by rw [s.out,if_neg (by simp;omega)];exact World.ownsRow_nil _ _ _ _,p.out.alloc p.out.size _⟩
  obtain ⟨b,rfl⟩:∃b:Nat,q=(b:Int):=⟨q.toNat,by omega⟩
  have aw:b < 8:=by omega
  have aR:(b:Int) < 8:=by omega
  have T:(decide (0≤(b:Int)) && decide ((b:Int) < 8))=true:=by simp;omega
  rw [T] at u;have al:=Q01 (show Q6L ⟨key,l,a⟩ (b:Int)=Q1R a b by rw [s.out,if_pos (by simp;omega)];simp);clear T s h0 h8;obtain ⟨n,hn⟩:∃n,a.length=n:=⟨_,rfl⟩;rw [hn];have aq:=Q01 hn
  have aY:n≤3:=by rw [←hn];exact HF.out.2.2.2.1
  clear hn;obtain ⟨P,ag⟩:∃W,v1.alloc (.cells #[.int .i64 key,.slice o l.length c,.slice o2 n c2] 127)=W:=⟨_,rfl⟩;have ai:=alb0v0v1 ag;have zz:=alz0v0v1 ag
  have z2:P.cell? ⟨v1.heap.size,2,none⟩=some (.slice o2 n c2):=by rw [←ag];simp [go_sem]
  have Y:=Q01 (p.out.trans (ai.mono p.out.size));have HV:=Q01 ai;clear ai;go_wp2_with (first|(go_at_call 143;refine (u.out _).mono ?_;rintro e w1 ⟨rfl,rfl⟩))
  go_loopw [7,27] (fun ov iv wr=> ∃i:Nat,i≤n∧iv=.int .i64 (i:Int)∧Hid (Q8j wr P.heap.size ov (Q1R (a.take i) b))∧(Q1R (a.take i) b).length≤2 * i∧Hid (Below P.heap.size P wr))
   (fun _ iv _=> n - (intOf iv).toNat)
  case atStart=> exact ⟨0,Kcq _,rfl,World.ownsRow_nil _ _ _ _,by simp [Q1R],Below.refl _ _⟩
  case round=>
   rename World=> wr
   rename_i ov _
   obtain ⟨i,aW,rfl,HO,hL,A⟩:=hrel
   by_cases hlt:i < n
   ·have aT:(i:Int) < (n:Int):=by omega
    have J:i < a.length:=by rw [aq.out];exact hlt
    have av:=Q01 (aK.out.kept (HV.out.trans (A.out.mono HV.out.size)) (Kaq _))
    rcases av.out with hh|⟨b1,off,rfl,aV,V⟩
    ·have:(a.map Q38).length=0:=by rw [hh];rfl
     rw [List.length_map] at this;omega
    have D:=Q01 (RdL.range V i (by rw [List.length_map];exact J));have ac:=Q01 (Q8p a b i J);have t:=(Q40 (HF.out.2.2.2.2 i J)).2 b aw;clear V av;rw [Qh6 a i J] at D;obtain ⟨f,aj⟩:∃f,Q38 (a.getD i [])=f:=⟨_,rfl⟩;rw [aj] at D;have an:=Q01 (show Q30 (f b)=(a.getD i []).getD b [] by rw [←aj];exact Q4h t);have aD:=Q72 t;clear aj t;obtain ⟨row,aB⟩:∃row,(a.getD i []).getD b []=row:=⟨_,rfl⟩;rw [aB] at an aD ac;clear aB;obtain ⟨F,ax⟩:∃q,Q1R (a.take i) b=q:=⟨_,rfl⟩;rw [ax] at HO hL ac;clear ax
    obtain ⟨R,ah⟩:∃W,wr.alloc (.cells (ptA f) 188)=W:=⟨_,rfl⟩;have G:=alb0v0v1 ah
    have O:R.heap[wr.heap.size]? =some (.cells (ptA f) 188 (0,0)):=by rw [←ah];exact World.alloc_heap_new wr _
    have N:=Qgz f b aw;have y0:R.cell? ⟨wr.heap.size,b * 3,none⟩=some (.bool (f b).1):=Q00 O _ _ N.1;have y1:R.cell? ⟨wr.heap.size,b * 3+1,none⟩=some (.int .i64 (f b).2.1):=Q00 O _ _ N.2.1;have y2:R.cell? ⟨wr.heap.size,b * 3+2,none⟩=some (.int .i64 (f b).2.2):=Q00 O _ _ N.2.2;have ao:=Q01 (Qcw (f b) R);have aZ:=G.size;have Z:=Q01 (A.out.trans (G.mono A.out.size));have ap:=Q01 (fun g e=> (HO.out.lt g e).2);have j:=Q01 (Q03 HO.out G);clear G O N HO A
    go_wp2_with (first|(refine wpList_load_mid rfl 188 (.tmp 29) rfl b1 (off+i * 24) rfl (ptL f) _ D.out ptU rfl ptI ?_)|(refine Q0T rfl (.tmp 9) (.tmp 30) rfl wr.heap.size f ptZ rfl rfl (World.alloc_heap_new wr _) ?_;rw [World.setRow_alloc_new,ah])|fail);refine ao.out.mono ?_;rintro e v3 ⟨o4,c4,rfl,aF,H⟩;have E:=Q01 (InRow.ri (InRow.of aF));rw [an.out] at E ⊢;have a0:=H.size;have ar:=Q01 (Q03 j.out H);have ak:=Q01 (Z.out.trans (H.mono Z.out.size));clear aF H j Z ao y0 y1 y2;obtain ⟨m,hm⟩:∃r,row.length=r:=⟨_,rfl⟩;rw [hm] at aD E ⊢;have HM:=Q01 hm;clear hm
    go_wp2
    go_loopw [7,36] (fun ov kv wq=> ∃k:Nat,k≤m∧kv=.int .i64 (k:Int)∧Hid (Q8j wq P.heap.size ov (Q2e F (row.take k)))∧(Q2e F (row.take k)).length≤2 * i+k∧Hid (Below P.heap.size P wq)∧Hid (RiV Q1P R.heap.size v3.heap.size wq (.slice o4 m c4) row)∧v3.heap.size≤wq.heap.size∧Hid (∀g,ov.ownBlock=some g→g < R.heap.size∨v3.heap.size≤g))
     (fun _ kv _=> m - (intOf kv).toNat)
    case atStart=> exact ⟨0,Kcq _,rfl,ar.out,by simpa [Q2e] using hL,ak.out,E.out,Kaq _,fun g e=> .inl (by have:=ap.out g e;omega)⟩
    case round=>
     rename World=> wq
     rename_i a2 _
     obtain ⟨k,aX,rfl,j,ae,z,ab,aP,aa⟩:=hrel;clear ar ak E D ap
     by_cases hlk:k < m
     ·have aS:(k:Int) < (m:Int):=by omega
      have M:k < row.length:=by rw [HM.out];exact hlk
      obtain ⟨o5,c5,e6,aO⟩:=RiV.open ab.out;injection e6 with e7 e8 e9;subst e7
      rcases aO with hh|⟨b3,aE,rfl,aU,C⟩
      ·rw [hh] at M;exact absurd M (Nat.not_lt_zero _)
      have aN:wq.cell? ⟨b3,aE+k,none⟩=some (.int .i64 (row.getD k 0)):=RdL.int C k M;have d:=Q01 (Q7G F row k M);clear C e8 e9;obtain ⟨y,hy⟩:∃y,row.getD k 0=y:=⟨_,rfl⟩;rw [hy] at aN d;clear hy;obtain ⟨ad,ay⟩:∃q,Q2e F (row.take k)=q:=⟨_,rfl⟩;rw [ay] at j ae d;clear ay;obtain ⟨oo,co,e5,aA⟩:=ownL.open (L:=Q1P) j.out;subst e5;have HH:=Q01 (Qav oo co ad y wq aA (by omega));clear aA;go_wp2_with fail;refine HH.out.mono ?_;rintro e w4 ⟨rfl,rfl⟩;clear HH
      cases hh:ad.contains y with
      |true=>
       have HY:=Q01 (Qab hh);go_wp2;go_roundw
       case rel=> exact ⟨k+1,by omega,by go_num,by rw [d.out,HY.out];exact j.out,by rw [d.out,HY.out];omega,z.out,ab.out,aP,aa.out⟩
       case measure=> simp [intOf];omega
      |false=>
       have HY:=Q01 (Qc4 hh);have a1:=z.out.size;have HA:=Q01 (World.ownsRow.alloc j.out (.cells #[.int .i64 y] 3));have aM:=Q01 (ab.out.step (Stp.of (lo:=0) (hi:=0) ((Below.refl w4.heap.size w4).alloc (Kaq _) (.cells #[.int .i64 y] 3))) (.inl (Kcq _)));go_wp2_with (first|(at_builtin;refine Q09 QgY rfl (.tmp 44) (.tmp 46) rfl P.heap.size _ ad rfl HA.out (some ⟨w4.heap.size,0,none⟩) 1 _ [y] 1 rfl rfl (by simp) Qex (by simp;omega) (by simp;omega) ?_));intro v5 w5 az I x;have aG:=Q01 ((z.out.alloc z.out.size _).grown I (by simp;omega) (fun k h=> (HA.out.lt k h).1))
       have aJ:=Q01 az;have aL:=Q01 (aM.out.grow I aa.out)
       have aQ:v3.heap.size≤w5.heap.size:=by have:=I.size;simp at this;omega
       have aI:Hid (∀g,v5.ownBlock=some g→g < R.heap.size∨v3.heap.size≤g):=fun g e=> by
        rcases x with x|x
        ·rw [x] at e;exact aa.out g e
        ·rw [x] at e;have:=Option.some.inj e;omega
       clear I az x;go_wp2;go_roundw
       case rel=> exact ⟨k+1,by omega,by go_num,by rw [d.out,HY.out];exact aJ.out,by rw [d.out,HY.out,List.length_append];simp;omega,aG.out,aL.out,aQ,aI.out⟩
       case measure=> simp [intOf];omega
     ·have e:k=m:=by omega
      subst e;rw [←HM.out,List.take_length,←ac.out] at j ae;go_wp2;go_roundw
      case rel=> exact ⟨i+1,by omega,by go_num,j.out,by rw [HM.out] at ae;omega,z.out⟩
      case measure=> simp [intOf];omega
   ·have e:i=n:=by omega
    subst e;rw [←aq.out,List.take_length] at HO;have aH:=Q01 (Y.out.trans (A.out.mono Y.out.size));go_wp2;go_ret;exact ⟨_,rfl,by rw [al.out];exact Q04 HO.out Y.out.size,aH.out⟩
end Go.Proofs.YtpneolgdghbinaaGreat
