/- Several texts in one: SPe, SPf, SPok, SPdo, SPdo2, CutP, NoteMath, SCan, SDr4b, SDr4c, SDrP, CandMath, SCan2. -/
import Derived.Laws.StructEq
import Derived.Test.YtpneolgdghbinaaGreatQLearnsL28
namespace Go.Proofs.YtpneolgdghbinaaGreat
open Go.ChangeShapes Go.WideShapes Go.ChangeAt Go.RowKit Go.Joins
set_option linter.unusedVariables false
set_option linter.unusedSimpArgs false
set_option maxRecDepth 100000
set_option maxHeartbeats 40000000
def Qag (f g:Pt):Bool:=(List.range 8).all (fun i=> f i==g i)
theorem Qjq:Tryz.prog.underlying 184=some (.array 2 3):=by kernel_rfl
theorem QhI:Tryz.prog.cellsOf 3=1:=by kernel_rfl
theorem Qiw:(Tryz.prog.info? 186).isSome=true:=by kernel_rfl
theorem Qhy:Tryz.prog.cellsOf 186=3:=by kernel_rfl
theorem Qcf (w:World) (a b:Int):(part 3 #[.int .i64 a,.int .i64 b] 0).run Tryz.prog w=.ok (.int .i64 a) w:=run_part_plain w (by kernel_rfl) rfl
theorem Qcr (w:World) (a b:Int):(part 3 #[.int .i64 a,.int .i64 b] 1).run Tryz.prog w=.ok (.int .i64 b) w:=run_part_plain w (by kernel_rfl) rfl
theorem Qhj (w:World) (s:Bool) (a b:Int):(part 4 #[.bool s,.int .i64 a,.int .i64 b] 0).run Tryz.prog w=.ok (.bool s) w:=run_part_plain w (by kernel_rfl) rfl
theorem Qhw (d:Nat) (a b c f:Int) (w:World):(Op.equalIn (d+1+1) 184 (.agg #[.int .i64 a,.int .i64 b]) (.agg #[.int .i64 c,.int .i64 f])).run Tryz.prog w=.ok (a==c && b==f) w:=by
 obtain ⟨i,hi⟩:∃i,Tryz.prog.info? 3=some i:=by
  cases h:Tryz.prog.info? 3 with
  |none=> have:=Qbu;rw [h] at this;cases this
  |some i=> exact ⟨i,rfl⟩
 have g:=Tryz.underlying3;rw [run_equalIn_array w (d+1) _ _ Qjq hi,QhI,show List.range 2=[0,1] from rfl];simp only [Op.eqItems,Nat.zero_mul,Nat.one_mul,Nat.mul_one,Sem.run_bind,Qcf,Qcr,Result.andThen_ok,run_equalIn_int w d 3 .i64 .i64 _ _ g]
 by_cases h1:a=c <;> by_cases h2:b=f <;> simp [h1,h2,Qcf,Qcr,Sem.run_bind,run_equalIn_int w d 3 .i64 .i64 _ _ g]
theorem QfJ (w:World) (s:Bool) (a b:Int):(part 184 #[.bool s,.int .i64 a,.int .i64 b] 1).run Tryz.prog w=.ok (.agg #[.int .i64 a,.int .i64 b]) w:=by
 have d:(isAgg 184).run Tryz.prog w=.ok true w:=by simp [go_sem]
 have h2:(sizeOf 184).run Tryz.prog w=.ok 2 w:=by
  have c:(Tryz.prog.info? 184).map (·.size)=some 2:=by kernel_rfl
  cases hq:Tryz.prog.info? 184 with
  |none=> simp [hq] at c
  |some i=> simp [hq] at c;simp [sizeOf,typeInfo,hq,c]
 simp [part,Sem.run_bind,d,h2]
theorem Qj3 (d:Nat) (p q:Ip) (w:World):(Op.equalIn (d+1+1+1) 186 (ipv p) (ipv q)).run Tryz.prog w=.ok (p==q) w:=by
 obtain ⟨s,a,b⟩:=p;obtain ⟨s',a',b'⟩:=q
 have hS:Tryz.prog.underlying 186=some (.struct (Tryz.prog.fieldsOf 186)):=by kernel_rfl
 have hF:(Tryz.prog.fieldsOf 186).toList.map (fun f=> (f.name,f.type,f.offset))=[("some",4,0),("ids",184,1)]:=by kernel_rfl
 rw [run_equalIn_struct w (d+1+1) 186 _ _ hS (by kernel_rfl)];generalize (Tryz.prog.fieldsOf 186).toList=fs at hF ⊢
 match fs,hF with
 |[],hF=> simp at hF
 |[_],hF=> simp at hF
 |_::_::_::_,hF=> simp at hF
 |[f1,f2],hF=>
  simp only [List.map_cons,List.map_nil,List.cons.injEq,Prod.mk.injEq,and_true] at hF;obtain ⟨⟨n1,t1,o1⟩,n2,t2,o2⟩:=hF;have hb:=Tryz.underlying4
  have hn1:¬(f1.name= "_"):=by rw [n1];decide
  have hn2:¬(f2.name= "_"):=by rw [n2];decide
  have e:((s,a,b)==(s',a',b'))=(s==s' && (a==a' && b==b')):=rfl;rw [e];simp only [Op.eqFields,ne_eq,hn1,hn2,not_false_eq_true,if_true,t1,t2,o1,o2,Sem.run_bind,Qhj,QfJ,Qhw,Result.andThen_ok,run_equalIn_bool' w (d+1) 4 _ _ hb]
  by_cases h1:s=s'
  ·subst h1
   simp only [beq_self_eq_true,Bool.not_true,Bool.false_eq_true,if_false,Sem.run_bind,QfJ,Qhw,Result.andThen_ok,Bool.true_and]
   cases hc:(a==a' && b==b') <;> simp
  ·have h1':(s==s')=false:=beq_eq_false_iff_ne.2 h1
   rw [h1'];simp
theorem Qho (w:World) (f:Pt) (i:Nat) (h:i < 8):(part 186 (ptA f) (i * 3)).run Tryz.prog w=.ok (ipv (f i)) w:=by
 simp [part,Sem.run_bind,Qi8,QeP,Qcp f i h]
theorem QcE (d:Nat) (f g:Pt) (w:World):∀a:List Nat,(∀i∈a,i < 8)→(Op.eqItems (d+1+1+1) 186 3 (ptA f) (ptA g) a).run Tryz.prog w=.ok (a.all (fun i=> f i==g i)) w
 |[],_=> by simp [Op.eqItems]
 |i::a,h=> by
  have hi:=h i (by simp);simp only [Op.eqItems,Sem.run_bind,Qho w f i hi,Qho w g i hi,Qj3,Result.andThen_ok]
  cases hc:(f i==g i) with
  |false=> simp [hc]
  |true=> simp only [Bool.not_true,Bool.false_eq_true,if_false];rw [QcE d f g w a (fun j b=> h j (by simp [b]))];simp [hc]
theorem Qjb (f g:Pt) (w:World):(Op.equalIn 10000 188 (ptv f) (ptv g)).run Tryz.prog w=.ok (Qag f g) w:=by
 have hi:=Qiw
 cases hq:Tryz.prog.info? 186 with
 |none=> rw [hq] at hi;cases hi
 |some i=>
  rw [show (10000:Nat)=9996+1+1+1+1 from rfl,run_equalIn_array w (9996+1+1+1) _ _ ptU hq,Qhy];exact QcE 9996 f g w _ (fun i hi=> by simpa using hi)
def Q27 (m:Pm):Bool:=Q1P m.key && Q0e m.l && decide (1≤m.ring.length) && decide (m.ring.length≤3) && (List.range m.ring.length).all (fun i=> Q1s (m.ring.getD i [])) && Qag (Q37 (m.ring.getD 0 [])) (Q2K m.key m.l)
theorem Qg3 {m:Pm} (h:Q1P m.key=false∨Q0e m.l=false∨m.ring.length < 1∨3 < m.ring.length∨(∃i,i < m.ring.length∧Q1s (m.ring.getD i [])=false)∨Qag (Q37 (m.ring.getD 0 [])) (Q2K m.key m.l)=false):Q27 m=false:=by
 rw [Bool.eq_false_iff];intro a;unfold Q27 at a;simp only [Bool.and_eq_true,decide_eq_true_eq,List.all_eq_true,List.mem_range] at a;obtain ⟨⟨⟨⟨⟨b,h2⟩,f⟩,g⟩,c⟩,d⟩:=a
 rcases h with h|h|h|h|⟨i,hi,h⟩|h
 ·rw [b] at h;cases h
 ·rw [h2] at h;cases h
 ·omega
 ·omega
 ·rw [c i hi] at h;cases h
 ·rw [d] at h;cases h
theorem Q9X {m:Pm} (a:Q1P m.key=true) (h2:Q0e m.l=true) (b:1≤m.ring.length) (c:m.ring.length≤3) (d:∀i,i < m.ring.length→Q1s (m.ring.getD i [])=true) (f:Qag (Q37 (m.ring.getD 0 [])) (Q2K m.key m.l)=true):Q27 m=true:=by
 unfold Q27;simp only [Bool.and_eq_true,decide_eq_true_eq,List.all_eq_true,List.mem_range];exact ⟨⟨⟨⟨⟨a,h2⟩,b⟩,c⟩,d⟩,f⟩
def QiE (m:Pm) (o:Option Addr) (cap:Nat) (w:World) (e:Ending) (w':World):Prop:=∃vP,e=.returned (.tuple #[vP,.bool (Q27 m)])∧(Q27 m=true→∃o2 c2,vP=Q6v m.key (.slice o m.l.length cap) (.slice o2 m.ring.length c2)∧ownL Q21 188 w' w.heap.size (.slice o2 m.ring.length c2) (m.ring.map Q37))∧(Q27 m=false→vP=Q6v 0 (.slice none 0 0) (.slice none 0 0))∧Below w.heap.size w w'
theorem Q6i {m:Pm} {o:Option Addr} {cap:Nat} {w a:World} (h:Q27 m=false) (c:Below w.heap.size w a):QiE m o cap w (.returned (.tuple #[Q6v 0 (.slice none 0 0) (.slice none 0 0),.bool false])) a:=
 ⟨_,by rw [h],fun b=> absurd (h.symm.trans b) (by simp),fun _=> rfl,c⟩
theorem QhN (w:World) (f:Pt):RdL Q21 (w.alloc (.cells (ptA f) 188)).heap.size (w.alloc (.cells (ptA f) 188)) (some ⟨w.heap.size,0,none⟩) [f]:=ownL.rd (L:=Q21) (Q5m w f)
theorem QgV (R:List (List (List Int))) (i:Nat) (h:i < R.length):(R.map Q37).take (i+1)=(R.map Q37).take i++[Q37 (R.getD i [])]:=by
 have a:i < (R.map Q37).length:=by rw [List.length_map];exact h
 rw [List.take_succ_eq_append_getElem a];simp [h]
theorem Qfi {w:World} {base:Nat} {v:Value} {a:List Pt} (h:ownL Q21 188 w base v a) (f:0 < a.length):∃g c,v=.slice (some ⟨g,0,none⟩) a.length c:=by
 rcases h.2 with ⟨_,d⟩|⟨g,cap,b,e,_⟩
 ·omega
 ·exact ⟨g,cap,e⟩
theorem QfI {w:World} {base g n c:Nat} {a:List (List (List Int))} (h:ownL Q21 188 w base (.slice (some ⟨g,0,none⟩) n c) (a.map Q37)) (d:0 < a.length):w.rangeAt g 0 (ptL (Q37 (a.getD 0 []))):=by
 rcases ownL.rds (L:=Q21) h with i|⟨b,off,e,_,r⟩
 ·have:(a.map Q37).length=0:=by rw [i];rfl
  rw [List.length_map] at this;omega
 ·injection e with e
  injection e with e1 e2 e3;subst e1 e2;have h2:=RdL.range r 0 (by rw [List.length_map];exact d)
  have f:(a.map Q37).getD 0 ptZ=Q37 (a.getD 0 []):=by simp [d]
  rw [f] at h2
  simpa using h2
theorem Qix {W:World} {B:Nat} {x y z:Value} {T:TypeId} (h:W.heap[B]? =some (.cells #[x,y,z] T (0,0))):W.cell? ⟨B,0,none⟩=some x∧W.cell? ⟨B,1,none⟩=some y∧W.cell? ⟨B,2,none⟩=some z∧W.frozen? ⟨B,0,none⟩=false∧W.frozen? ⟨B,1,none⟩=false∧W.frozen? ⟨B,2,none⟩=false:=
 ⟨Q00 h 0 _ rfl,Q00 h 1 _ rfl,Q00 h 2 _ rfl,Q02 h 0,Q02 h 1,Q02 h 2⟩
theorem QhS:Tryz.prog.eqGuardType Tryz.prog.depth 188=false:=by kernel_rfl
theorem Q74 (key:Int) (o:Option Addr) (cap:Nat) (l:List Bk) (oR:Option Addr) (cR:Nat) (c:List (List (List Int))) (n:Nat) (az:n=c.length) (w:World) (hR:RdK w.heap.size w o l) (hG:RiR 0 w.heap.size w (.slice oR n cR) c) (hf:Q3q ⟨key,l,c⟩):
  Calls Tryz.prog 142 #[plv key (.slice o l.length cap) (.slice oR n cR)] w fun e w'=> QiE ⟨key,l,c⟩ o cap w e w':=by
 have s:=Q01 az;obtain ⟨av,aM,aN,aw,ax⟩:=hf;dsimp only at av aM aN aw ax;rw [←az] at aM;have HX:=Q01 aw;have HY:=Q01 ax;clear az aw ax aN;obtain ⟨W0,G⟩:∃W,((w.alloc (.cells #[.int .i64 key,.slice o l.length cap,.slice oR n cR] 29)).alloc (.cells #[.int .i64 0,.slice none 0 0,.slice none 0 0] 127))=W:=⟨_,rfl⟩;have Z:=alb0v0v2 G;have P:=Q01 Z;clear Z;have zz:=alz0v0v2 G;obtain ⟨z0,z1,z2⟩:=alc3v0v2 G;have r:=alz0v1v2 G;obtain ⟨r0,r1,r2⟩:=alc3v1v2 G;obtain ⟨V,X,Y⟩:=alf3v1v2 G
 have a3:=Q01 (show W0.heap[w.heap.size+1]? =some (.cells #[.int .i64 0,.slice none 0 0,.slice none 0 0] 127 (0,0)) by rw [←G];exact Q1V w _ _ _);have bd:=r;have bg:=zz;have C:=Q01 (fun W=> Q10 key W);have B:=Q01 (Q2R o cap l W0 ((hR.kept P.out (Kaq _)).le P.out.size) av);have a5:=Q01 hR;have HG:=Q01 hG;clear hR hG;have N:=Q01 (fun h=> Qg3 (m:=⟨key,l,c⟩) h);have bn:=P.out.size
 cases hk:Q1P key with
 |false=>
  rw [hk] at C;go_enter Tryz.func142,Tryz.ntmps142;go_wp2_with (first|(go_at_call 115;refine (C.out _).mono ?_;rintro e w1 ⟨rfl,rfl⟩)|(go_at_call 175;refine B.out.mono ?_;rintro e w2 ⟨rfl,a⟩;have a:=Q01 a));refine bodyPost_ret (v:=.tuple #[Q6v 0 (.slice none 0 0) (.slice none 0 0),.bool false]) (by simp [results,Tryz.results142,go_sem,r0,r1,r2]) rfl (Q6i (N.out (.inl hk)) (Q0w P.out (Nat.le_succ _) _ _ _))
 |true=>
  rw [hk] at C;have HK:=Q01 hk;clear hk
  cases hbo:Q0e l with
  |false=>
   rw [hbo] at B;go_enter Tryz.func142,Tryz.ntmps142;go_wp2_with (first|(go_at_call 115;refine (C.out _).mono ?_;rintro e w1 ⟨rfl,rfl⟩)|(go_at_call 175;refine B.out.mono ?_;rintro e w2 ⟨rfl,a⟩;have s0:=bC a r0 r;have s1:=bC a r1 r;have s2:=bC a r2 r;have t0:=bF a V r;have t1:=bF a X r;have t2:=bF a Y r;have a:=Q01 a))
   refine bodyPost_ret (v:=.tuple #[Q6v 0 (.slice none 0 0) (.slice none 0 0),.bool false]) (by simp [results,Tryz.results142,go_sem,s0,s1,s2]) rfl (Q6i (N.out (.inr (.inl hbo))) (Q0w (P.out.trans (a.out.mono P.out.size)) (Nat.le_succ _) _ _ _))
  |true=>
   rw [hbo] at B;have aB:=Q01 hbo;clear hbo
   by_cases h1:(n:Int) < 1
   ·go_enter Tryz.func142,Tryz.ntmps142
    go_wp2_with (first|(go_at_call 115;refine (C.out _).mono ?_;rintro e w1 ⟨rfl,rfl⟩)|(go_at_call 175;refine B.out.mono ?_;rintro e w2 ⟨rfl,a⟩;have s0:=bC a r0 r;have s1:=bC a r1 r;have s2:=bC a r2 r;have t0:=bF a V r;have t1:=bF a X r;have t2:=bF a Y r;have y0:=bC a z0 zz;have y1:=bC a z1 zz;have y2:=bC a z2 zz;have a:=Q01 a))
    refine bodyPost_ret (v:=.tuple #[Q6v 0 (.slice none 0 0) (.slice none 0 0),.bool false]) (by simp [results,Tryz.results142,go_sem,s0,s1,s2]) rfl (Q6i (N.out (.inr (.inr (.inl (show c.length < 1 by have:=s.out;omega))))) (Q0w (P.out.trans (a.out.mono P.out.size)) (Nat.le_succ _) _ _ _))
   by_cases h3:(3:Int) < (n:Int)
   ·go_enter Tryz.func142,Tryz.ntmps142
    go_wp2_with (first|(go_at_call 115;refine (C.out _).mono ?_;rintro e w1 ⟨rfl,rfl⟩)|(go_at_call 175;refine B.out.mono ?_;rintro e w2 ⟨rfl,a⟩;have s0:=bC a r0 r;have s1:=bC a r1 r;have s2:=bC a r2 r;have t0:=bF a V r;have t1:=bF a X r;have t2:=bF a Y r;have y0:=bC a z0 zz;have y1:=bC a z1 zz;have y2:=bC a z2 zz;have a:=Q01 a))
    refine bodyPost_ret (v:=.tuple #[Q6v 0 (.slice none 0 0) (.slice none 0 0),.bool false]) (by simp [results,Tryz.results142,go_sem,s0,s1,s2]) rfl (Q6i (N.out (.inr (.inr (.inr (.inl (show 3 < c.length by have:=s.out;omega)))))) (Q0w (P.out.trans (a.out.mono P.out.size)) (Nat.le_succ _) _ _ _))
   have a8:1≤n:=by omega
   have a9:n≤3:=by omega
   go_enter Tryz.func142,Tryz.ntmps142;go_wp2_with (first|(go_at_call 115;refine (C.out _).mono ?_;rintro e w1 ⟨rfl,rfl⟩)|(go_at_call 175;refine B.out.mono ?_;rintro e w2 ⟨rfl,a⟩;have s0:=bC a r0 r;have s1:=bC a r1 r;have s2:=bC a r2 r;have t0:=bF a V r;have t1:=bF a X r;have t2:=bF a Y r;have y0:=bC a z0 zz;have y1:=bC a z1 zz;have y2:=bC a z2 zz;have a:=Q01 a));have bk:=a.out.size;have a0:=Q01 (P.out.trans (a.out.mono P.out.size));have a4:=Q01 ((a.out.block _ bd).trans a3.out);clear z0 z1 z2 r0 r1 r2 V X Y s0 s1 s2 t0 t1 t2 C B
   go_loopw [4,35] (fun rv iv wr=> ∃(i:Nat),i≤n∧iv=.int .i64 (i:Int)∧Hid (ownL Q21 188 wr w2.heap.size rv ((c.map Q37).take i))∧Hid (∀j,j < i→Q1s (c.getD j [])=true)∧Hid (Below w2.heap.size w2 wr))
    (fun _ iv _=> n - (intOf iv).toNat)
   case atStart=> exact ⟨0,Kcq _,rfl,by rw [List.take_zero];exact World.ownsRow_nil _ _ _ _,fun j hj=> absurd hj (Nat.not_lt_zero _),Below.refl _ _⟩
   case round=>
    rename_i rv _
    obtain ⟨i,bj,rfl,F,aE,E⟩:=hrel;have bc:=E.out.size;have af:=bC E.out y0 (by omega);have ag:=bC E.out y1 (by omega);have aW:=bC E.out y2 (by omega);have q:=Q01 (a0.out.trans (E.out.mono (show w.heap.size≤w2.heap.size by omega)));have O:=(E.out.block _ (show w.heap.size+1 < w2.heap.size by omega)).trans a4.out
    by_cases hlt:i < n
    ·skip
     have bf:(i:Int) < (n:Int):=by omega
     have ac:i < c.length:=by rw [←s.out];exact hlt
     obtain ⟨b,off,o',c',rfl,ba,ai,ak⟩:=HG.out.at (Kaq _) i ac;have aL:=bC q.out ai ba;have aS:=(ak.kept q.out (Kaq _)).le q.out.size;have ap:=Q01 (QgV c i ac);have aU:=HX.out i ac;have aV:=HY.out i ac;have aD:=Q01 (fun h=> N.out (.inr (.inr (.inr (.inr (.inl ⟨i,ac,h⟩))))));have A:=Q01 (Q3O o' c' (c.getD i []) wr aS aU aV);clear ai ak aS aU aV;obtain ⟨ll,ay⟩:∃ll,c.getD i []=ll:=⟨_,rfl⟩;rw [ay] at aL ap aD A;have a1:=Q01 ay;clear ay;obtain ⟨m,hm⟩:∃m,ll.length=m:=⟨_,rfl⟩;rw [hm] at aL A;clear hm
     cases hok:Q1s ll with
     |false=>
      rw [hok] at A;simp only [Bool.false_eq_true,if_false] at A;have g0:=Q02 O 0;have g1:=Q02 O 1;have g2:=Q02 O 2;go_wp2_with fail;refine A.out.mono ?_;rintro e z ⟨rfl,D⟩;have aT:=D.size;have aj:=(D.block _ (show w.heap.size+1 < wr.heap.size by omega)).trans O;obtain ⟨R,H⟩:∃W,z.alloc (.cells (ptA ptZ) 188)=W:=⟨_,rfl⟩
      have x:R.heap[w.heap.size+1]? =some (.cells #[.int .i64 0,.slice none 0 0,.slice none 0 0] 127 (0,0)):=by rw [←H];exact (Below.heap_alloc _ _ _ (by omega)).trans aj
      have aX:Hid (Below w.heap.size w R):=by rw [←H];exact (q.out.trans (D.mono q.out.size)).alloc (by have:=q.out.size;omega) _
      have q0:R.cell? ⟨w.heap.size+1,0,none⟩=some (.int .i64 0):=Q00 x 0 _ rfl;have aI:=Q02 x 0;have q1:R.cell? ⟨w.heap.size+1,1,none⟩=some (.slice none 0 0):=Q00 x 1 _ rfl;have aJ:=Q02 x 1;have q2:R.cell? ⟨w.heap.size+1,2,none⟩=some (.slice none 0 0):=Q00 x 2 _ rfl;have aK:=Q02 x 2;clear D aj x;go_wp2_with (first|(refine Q0R rfl (.tmp 7) (.tmp 42) rfl z.heap.size ptZ ptZ rfl rfl (World.alloc_heap_new z _) ?_;rw [World.setRow_alloc_new,H]))
      refine bodyPost_ret (v:=.tuple #[Q6v 0 (.slice none 0 0) (.slice none 0 0),.bool false]) (by simp [results,Tryz.results142,go_sem,q0,q1,q2]) rfl (Q6i (aD.out hok) (Q0w aX.out (Nat.le_succ _) _ _ _))
     |true=>
      have aF:=Q01 hok;rw [hok] at A;simp only [if_true] at A;clear hok;obtain ⟨f,hf⟩:∃f,Q37 ll=f:=⟨_,rfl⟩;rw [hf] at A ap;clear hf;go_wp2_with fail;refine A.out.mono ?_;rintro e z ⟨rfl,D⟩;have aT:=D.size;obtain ⟨R,H⟩:∃W,z.alloc (.cells (ptA f) 188)=W:=⟨_,rfl⟩
      have J:Below wr.heap.size wr R:=by rw [←H];exact D.alloc aT _
      have a7:Hid (R.heap[z.heap.size]? =some (.cells (ptA f) 188 (0,0))):=by rw [←H];exact World.alloc_heap_new z _
      have aG:=Q01 (Q03 F.out J);have aY:=Q01 (E.out.trans (J.mono bc));have bl:=J.size;obtain ⟨oq,cq,eq,_⟩:=ownL.open (L:=Q21) F.out;have aC:=Q01 (show ((c.map Q37).take i).length=i by rw [List.length_take,List.length_map];omega);rw [aC.out] at eq;subst eq;clear D J;obtain ⟨W3,ar⟩:∃W,R.alloc (.cells (ptA f) 188)=W:=⟨_,rfl⟩;have ae:=alb0v0v1 ar;have a6:=Q01 (show RdL Q21 W3.heap.size W3 (some ⟨R.heap.size,0,none⟩) [f] by rw [←ar];exact QhN R f);have ah:=Q01 (Q03 aG.out ae);have M:=Q01 (aY.out.trans (ae.mono (by omega)));have bm:=ae.size;clear ae
      go_wp2_with (first|(refine Q0R rfl (.tmp 7) (.tmp 42) rfl z.heap.size f ptZ rfl rfl (World.alloc_heap_new z _) ?_;rw [World.setRow_alloc_new,H])|(refine Q1S rfl (.tmp 7) rfl z.heap.size rfl f a7.out ?_)|(refine Q28 rfl (.tmp 48) rfl f rfl ?_;rw [ar])|(at_builtin;refine Q08 Qit rfl (.tmp 47) (.tmp 49) rfl w2.heap.size (.slice oq i cq) ((c.map Q37).take i) rfl ah.out (some ⟨R.heap.size,0,none⟩) 1 W3.heap.size [f] 1 rfl rfl (by simp) a6.out (by rw [aC.out];simp;omega) (by omega) ?_));intro v8 w8 aQ aO _
      have aZ:=Q01 (M.out.grown aO (by omega) (fun k h=> (ah.out.lt k h).1));have a2:=Q01 aQ;clear aQ aO;go_wp2;go_roundw
      case rel=> exact ⟨i+1,by omega,by go_num,by rw [ap.out];exact a2.out,(fun j hj=> by rcases Nat.lt_succ_iff_lt_or_eq.1 hj with h'|h';(· exact aE.out j h');(· rw [h',a1.out];exact aF.out)),aZ.out⟩
      case measure=> simp [intOf];omega
    ·skip
     have e:i=n:=by omega
     subst e;have aA:=Q01 (show (c.map Q37).take i=c.map Q37 by rw [s.out,show c.length=(c.map Q37).length by simp,List.take_length]);rw [aA.out] at F;obtain ⟨g,cq,eq⟩:=Qfi F.out (by rw [List.length_map,←s.out];omega);rw [List.length_map,←s.out] at eq;subst eq;have U:=Q01 (show wr.rangeAt g 0 (ptL (Q37 (c.getD 0 []))) from QfI F.out (by rw [←s.out];omega));have aP:g < wr.heap.size:=(F.out.lt g rfl).2
     have aq:=Q01 (fun h6=> Q9X (m:=⟨key,l,c⟩) HK.out aB.out (by show 1≤c.length;rw [←s.out];exact a8) (by show c.length≤3;rw [←s.out];exact a9) (fun j hj=> aE.out j (by rw [s.out];exact hj)) h6);have an:=Q01 (fun h6=> N.out (.inr (.inr (.inr (.inr (.inr h6))))));have ao:=Q01 (Q1J key o cap l wr.drew ((a5.out.kept q.out (Kaq _)).le q.out.size) av HK.out aB.out);have am:=Q01 (fun W=> Qjb (Q37 (c.getD 0 [])) (Q2K key l) W);obtain ⟨f0,au⟩:∃f,Q37 (c.getD 0 [])=f:=⟨_,rfl⟩;obtain ⟨f1,ab⟩:∃f,Q2K key l=f:=⟨_,rfl⟩;dsimp only at aq an;rw [au,ab] at aq an am
     rw [au] at U;rw [ab] at ao;clear au ab
     have bh:(0:Int) < (i:Int):=by omega
     have be:¬(i=0):=by omega
     have bi:=QhS;have aH:=Q01 O;clear O h1 h3;have T:=Q01 (fun z (hb:Below wr.heap.size wr z)=> Qix ((hb.block _ (show w.heap.size+1 < wr.heap.size by omega)).trans aH.out))
     have y:w.heap.size < wr.heap.size:=by omega
     cases hr:Qag f0 f1 with
     |false=>
      go_wp2;refine wp_region_held_drew (S:=(fun w'=> w'.rangeAt g 0 (ptL f0)∧w'.cell? ⟨w.heap.size,0,none⟩=some (.int .i64 key)∧w'.cell? ⟨w.heap.size,1,none⟩=some (.slice o l.length cap))) (by kernel_rfl) ⟨U.out,af,ag⟩ (fun hHeld=> ?_);refine wpAnyH_take (i:=0) (oi:=_) (v:=.slice (some ⟨g,0,none⟩) i cq) rfl (by kernel_rfl) (by kernel_rfl) (by kernel_rfl) (fun _ _ _ h=> h) (Or.inl ⟨by rfl,fun w d=> by obtain ⟨_,t,u⟩:=d;go_simp⟩) hHeld ?_
      try simp only [Act.put,List.setIfInBounds_toArray,List.set_cons_zero,List.set_cons_succ]
      refine wpAnyH_take (i:=1) (oi:=_) (v:=.pointer (some ⟨g,0,none⟩)) rfl (by kernel_rfl) (by kernel_rfl) (by kernel_rfl) (fun _ _ _ h=> h) (Or.inl ⟨by rfl,fun w d=> by obtain ⟨_,t,u⟩:=d;go_simp⟩) hHeld ?_
      try simp only [Act.put,List.setIfInBounds_toArray,List.set_cons_zero,List.set_cons_succ]
      refine wpAnyH_take (i:=2) (oi:=_) (v:=ptv f0) rfl (by kernel_rfl) (by kernel_rfl) (by kernel_rfl) (fun _ _ _ h=> h) (yieldsIf_load_mid (by rfl) _ _ rfl g 0 rfl (ptL f0) _ (fun w h=> h.1) ptU rfl ptI) hHeld ?_
      try simp only [Act.put,List.setIfInBounds_toArray,List.set_cons_zero,List.set_cons_succ]
      refine wpAnyH_take (i:=3) (oi:=_) (v:=.pointer (some ⟨w.heap.size,0,none⟩)) rfl (by kernel_rfl) (by kernel_rfl) (by kernel_rfl) (fun _ _ _ h=> h) (Or.inl ⟨by rfl,fun w d=> by obtain ⟨_,t,u⟩:=d;go_simp⟩) hHeld ?_
      try simp only [Act.put,List.setIfInBounds_toArray,List.set_cons_zero,List.set_cons_succ]
      refine wpAnyH_take (i:=4) (oi:=_) (v:=.int .i64 key) rfl (by kernel_rfl) (by kernel_rfl) (by kernel_rfl) (fun _ _ _ h=> h) (Or.inl ⟨by rfl,fun w d=> by obtain ⟨_,t,u⟩:=d;go_simp⟩) hHeld ?_
      try simp only [Act.put,List.setIfInBounds_toArray,List.set_cons_zero,List.set_cons_succ]
      refine wpAnyH_take (i:=5) (oi:=_) (v:=.pointer (some ⟨w.heap.size,1,none⟩)) rfl (by kernel_rfl) (by kernel_rfl) (by kernel_rfl) (fun _ _ _ h=> h) (Or.inl ⟨by rfl,fun w d=> by obtain ⟨_,t,u⟩:=d;go_simp⟩) hHeld ?_
      try simp only [Act.put,List.setIfInBounds_toArray,List.set_cons_zero,List.set_cons_succ]
      refine wpAnyH_take (i:=6) (oi:=_) (v:=.slice o l.length cap) rfl (by kernel_rfl) (by kernel_rfl) (by kernel_rfl) (fun _ _ _ h=> h) (Or.inl ⟨by rfl,fun w d=> by obtain ⟨_,t,u⟩:=d;go_simp⟩) hHeld ?_
      try simp only [Act.put,List.setIfInBounds_toArray,List.set_cons_zero,List.set_cons_succ]
      refine wpAnyH_ready (rs:=[7]) (by kernel_rfl) (by simp) ?_;refine AllReadyH.cons rfl (fun K hK=> ?_) AllReadyH.nil
      go_simp
      go_at_call 118;refine ao.out.mono ?_;rintro e z ⟨rfl,p⟩;replace p:Below wr.heap.size wr z:=(Below.drew (Below.refl _ _)).trans p;have k0:=bC p af y;have k1:=bC p ag y;have k2:=bC p aW y;have I:=Q1v U.out p aP;obtain ⟨q0,q1,q2,aI,aJ,aK⟩:=T.out z p;have M:=Q01 p;clear p;go_wp2_with fail;refine hK.out _ _ ⟨I,k0,k1⟩ (fun hHeld=> ?_);clear hK K
      try simp only [Act.put,List.setIfInBounds_toArray,List.set_cons_zero,List.set_cons_succ]
      refine wpAnyH_ready (rs:=[8]) (by kernel_rfl) (by simp) ?_;refine AllReadyH.cons rfl (fun K hK=> ?_) AllReadyH.nil;have aa:=am.out z;rw [hr] at aa
      go_simp
      refine hK.out _ _ ⟨I,k0,k1⟩ (fun hHeld=> ?_);clear hK K hHeld aa
      try simp only [Act.put,List.setIfInBounds_toArray,List.set_cons_zero,List.set_cons_succ]
      refine wpAnyH_done (by kernel_rfl) ?_ _;clear I;go_wp2;refine bodyPost_ret (v:=.tuple #[Q6v 0 (.slice none 0 0) (.slice none 0 0),.bool false]) (by simp [results,Tryz.results142,go_sem,q0,q1,q2]) rfl (Q6i (an.out hr) (Q0w (q.out.trans (M.out.mono q.out.size)) (Nat.le_succ _) _ _ _))
     |true=>
      go_wp2;refine wp_region_held_drew (S:=(fun w'=> w'.rangeAt g 0 (ptL f0)∧w'.cell? ⟨w.heap.size,0,none⟩=some (.int .i64 key)∧w'.cell? ⟨w.heap.size,1,none⟩=some (.slice o l.length cap))) (by kernel_rfl) ⟨U.out,af,ag⟩ (fun hHeld=> ?_);refine wpAnyH_take (i:=0) (oi:=_) (v:=.slice (some ⟨g,0,none⟩) i cq) rfl (by kernel_rfl) (by kernel_rfl) (by kernel_rfl) (fun _ _ _ h=> h) (Or.inl ⟨by rfl,fun w d=> by obtain ⟨_,t,u⟩:=d;go_simp⟩) hHeld ?_
      try simp only [Act.put,List.setIfInBounds_toArray,List.set_cons_zero,List.set_cons_succ]
      refine wpAnyH_take (i:=1) (oi:=_) (v:=.pointer (some ⟨g,0,none⟩)) rfl (by kernel_rfl) (by kernel_rfl) (by kernel_rfl) (fun _ _ _ h=> h) (Or.inl ⟨by rfl,fun w d=> by obtain ⟨_,t,u⟩:=d;go_simp⟩) hHeld ?_
      try simp only [Act.put,List.setIfInBounds_toArray,List.set_cons_zero,List.set_cons_succ]
      refine wpAnyH_take (i:=2) (oi:=_) (v:=ptv f0) rfl (by kernel_rfl) (by kernel_rfl) (by kernel_rfl) (fun _ _ _ h=> h) (yieldsIf_load_mid (by rfl) _ _ rfl g 0 rfl (ptL f0) _ (fun w h=> h.1) ptU rfl ptI) hHeld ?_
      try simp only [Act.put,List.setIfInBounds_toArray,List.set_cons_zero,List.set_cons_succ]
      refine wpAnyH_take (i:=3) (oi:=_) (v:=.pointer (some ⟨w.heap.size,0,none⟩)) rfl (by kernel_rfl) (by kernel_rfl) (by kernel_rfl) (fun _ _ _ h=> h) (Or.inl ⟨by rfl,fun w d=> by obtain ⟨_,t,u⟩:=d;go_simp⟩) hHeld ?_
      try simp only [Act.put,List.setIfInBounds_toArray,List.set_cons_zero,List.set_cons_succ]
      refine wpAnyH_take (i:=4) (oi:=_) (v:=.int .i64 key) rfl (by kernel_rfl) (by kernel_rfl) (by kernel_rfl) (fun _ _ _ h=> h) (Or.inl ⟨by rfl,fun w d=> by obtain ⟨_,t,u⟩:=d;go_simp⟩) hHeld ?_
      try simp only [Act.put,List.setIfInBounds_toArray,List.set_cons_zero,List.set_cons_succ]
      refine wpAnyH_take (i:=5) (oi:=_) (v:=.pointer (some ⟨w.heap.size,1,none⟩)) rfl (by kernel_rfl) (by kernel_rfl) (by kernel_rfl) (fun _ _ _ h=> h) (Or.inl ⟨by rfl,fun w d=> by obtain ⟨_,t,u⟩:=d;go_simp⟩) hHeld ?_
      try simp only [Act.put,List.setIfInBounds_toArray,List.set_cons_zero,List.set_cons_succ]
      refine wpAnyH_take (i:=6) (oi:=_) (v:=.slice o l.length cap) rfl (by kernel_rfl) (by kernel_rfl) (by kernel_rfl) (fun _ _ _ h=> h) (Or.inl ⟨by rfl,fun w d=> by obtain ⟨_,t,u⟩:=d;go_simp⟩) hHeld ?_
      try simp only [Act.put,List.setIfInBounds_toArray,List.set_cons_zero,List.set_cons_succ]
      refine wpAnyH_ready (rs:=[7]) (by kernel_rfl) (by simp) ?_;refine AllReadyH.cons rfl (fun K hK=> ?_) AllReadyH.nil
      go_simp
      go_at_call 118;refine ao.out.mono ?_;rintro e z ⟨rfl,p⟩;replace p:Below wr.heap.size wr z:=(Below.drew (Below.refl _ _)).trans p;have k0:=bC p af y;have k1:=bC p ag y;have k2:=bC p aW y;have I:=Q1v U.out p aP;obtain ⟨q0,q1,q2,aI,aJ,aK⟩:=T.out z p;have M:=Q01 p;clear p;go_wp2_with fail;refine hK.out _ _ ⟨I,k0,k1⟩ (fun hHeld=> ?_);clear hK K
      try simp only [Act.put,List.setIfInBounds_toArray,List.set_cons_zero,List.set_cons_succ]
      refine wpAnyH_ready (rs:=[8]) (by kernel_rfl) (by simp) ?_;refine AllReadyH.cons rfl (fun K hK=> ?_) AllReadyH.nil;have aa:=am.out z;rw [hr] at aa
      go_simp
      refine hK.out _ _ ⟨I,k0,k1⟩ (fun hHeld=> ?_);clear hK K hHeld aa
      try simp only [Act.put,List.setIfInBounds_toArray,List.set_cons_zero,List.set_cons_succ]
      refine wpAnyH_done (by kernel_rfl) ?_ _;clear I;go_wp2;refine bodyPost_ret (v:=.tuple #[Q6v key (.slice o l.length cap) (.slice (some ⟨g,0,none⟩) i cq),.bool true]) (by simp [results,Tryz.results142,go_sem,q0,q1,q2]) rfl ?_;have al:=aq.out hr
      have ad:w.heap.size+1 < w2.heap.size:=by omega
      have aR:=Q0n (Q0n (Q0n (Q03 F.out M.out) ad 0 (.int .i64 key)) ad 1 (.slice o l.length cap)) ad 2 (.slice (some ⟨g,0,none⟩) i cq);have bb:=s.out;subst bb;exact ⟨_,by rw [al],fun _=> ⟨some ⟨g,0,none⟩,cq,rfl,Q04 aR (by omega)⟩,fun h=> absurd (h.symm.trans al) (by simp),Q0w (q.out.trans (M.out.mono q.out.size)) (Nat.le_succ _) _ _ _⟩
theorem Qdx {l:List Int} {j:Nat} (b:j < l.length) (h:idB (l.getD j 0)=false):Q0T l=false:=by
 unfold Q0T
 by_cases h2:l.length=2
 ·have a:¬(l.length=0):=by omega
  match j,b,h with
  |0,_,h=> simp only [h];simp [a]
  |1,_,h=> simp only [h];simp [a]
  |j+2,b,_=> omega
 ·have a:¬(l.length=0):=by omega
  simp [h2,a]
theorem Qaj {aa bb:List (List Int)}:∀k,Q0V aa bb k=0→∀i,i < k→aa.getD i []=bb.getD i []
 |0,_=> fun i hi=> absurd hi (Nat.not_lt_zero _)
 |k+1,h=> fun i hi=> by
  have c:=(Q4N aa bb k).1
  by_cases e:aa.getD k []=bb.getD k []
  ·have b:=Q3c (aa:=aa) (bb:=bb) (k:=k) rfl rfl e
   rcases Nat.lt_succ_iff_lt_or_eq.1 hi with a|a
   ·exact Qaj k (by omega) i a
   ·rw [a];exact e
  ·have b:=Q4s (aa:=aa) (bb:=bb) (k:=k) rfl rfl e
   omega
theorem Q3w {aa bb:List (List Int)}:∀k,(∀i,i < k→aa.getD i []=bb.getD i [])→Q0V aa bb k=0
 |0,_=> rfl
 |k+1,h=> by
  rw [←Q3c (aa:=aa) (bb:=bb) (k:=k) rfl rfl (h k (by omega))];exact Q3w k (fun i hi=> h i (by omega))
theorem Q6W {ll:List (List Int)} (h:Q1s ll=true):ll.length=8∧∀i,i < 8→Q0T (ll.getD i [])=true:=by
 unfold Q1s at h;simp only [Bool.and_eq_true,decide_eq_true_eq,List.all_eq_true,List.mem_range] at h;exact h
theorem Qg8 {key:Int} {l:List Bk} {ll:List (List Int)} (g:Q0e l=true) (h:Q1s ll=true):Q1k ll (Q38 key l)=0↔Qag (Q37 ll) (Q2K key l)=true:=by
 obtain ⟨f,j⟩:=Q6W h
 have hm:Q1k ll (Q38 key l)=Q0V ll (Q38 key l) 8:=by rw [Q1k,if_pos ⟨f,Q1O key l⟩]
 rw [hm]
 have d:∀i,i < 8→(Q38 key l).getD i []=Q19 key i l:=fun i hi=> by unfold Q38;rw [Q2n _ _ _ hi]
 constructor
 ·intro a
  unfold Qag;rw [List.all_eq_true];intro i hi
  have b:i < 8:=by simpa using hi
  have c:=Qaj 8 a i b;unfold Q37 Q2K;rw [c,d i b];exact beq_self_eq_true _
 ·intro a
  unfold Qag at a;rw [List.all_eq_true] at a;refine Q3w 8 (fun i hi=> ?_);have c:=eq_of_beq (a i (by simpa using hi));unfold Q37 Q2K at c;rw [d i hi,←Q4G (j i hi),c,Q4G (Q9h key i g)]
theorem Qff {m:Pm} (b:Q1P m.key=true) (h2:Q0e m.l=true) (c:1≤m.ring.length) (d:m.ring.length≤3) (a:∀i,i < m.ring.length→Q1s (m.ring.getD i [])=true) (f:Q1k (m.ring.getD 0 []) (Q38 m.key m.l)=0):Q27 m=true:=
 Q9X b h2 c d a ((Qg8 h2 (a 0 (by omega))).1 f)
def Qau (m:Pm) (k i g:Int):Pm:=if (Q27 m && Q0J k i g)=true then (match doL m.l k i g with|none=> m|some l=> ⟨m.key,l,(Q38 m.key l::m.ring).take 3⟩) else pm0
def Qia (m:Pm) (k i g:Int):Bool:=(Q27 m && Q0J k i g) && (doL m.l k i g).isSome
theorem Q1B {m:Pm} (h:Q27 m=true):Q1P m.key=true∧Q0e m.l=true∧1≤m.ring.length∧m.ring.length≤3∧∀i,i < m.ring.length→Q1s (m.ring.getD i [])=true:=by
 unfold Q27 at h;simp only [Bool.and_eq_true,decide_eq_true_eq,List.all_eq_true,List.mem_range] at h;obtain ⟨⟨⟨⟨⟨a,h2⟩,b⟩,c⟩,d⟩,f⟩:=h;exact ⟨a,h2,b,c,d⟩
theorem Q9t {l:List Int} (h:Q0T l=true):l.length≤2:=by
 unfold Q0T at h;simp only [Bool.or_eq_true,Bool.and_eq_true,decide_eq_true_eq] at h;omega
theorem Qh2 {ll:List (List Int)} (h:Q1s ll=true):Q4g (Q37 ll)=ll:=by
 obtain ⟨b,c⟩:=Q6W h;apply List.ext_getElem
 ·rw [Q3U,b]
 ·intro i a h2
  have hi:i < 8:=by rw [Q3U] at a;exact a
  have e:ll.getD i []=ll[i]:=by simp [h2]
  have:=Q4G (c i hi);rw [e] at this;simp [Q4g,Q37,h2,this]
theorem Qav {R:List (List (List Int))} (h:∀i,i < R.length→Q1s (R.getD i [])=true):(R.map Q37).map Q4g=R:=by
 apply List.ext_getElem
 ·simp
 ·intro i a h2
  have:=Qh2 (h i h2)
  have e:R.getD i []=R[i]:=by simp [h2]
  rw [e] at this;simp [this]
theorem QfM {key:Int} {l:List Bk} {R:List (List (List Int))} (a:Q0e l=true) (h:∀i,i < R.length→Q1s (R.getD i [])=true):(Q2K key l::(R.map Q37).take 2).map Q4g=(Q38 key l::R).take 3:=by
 rw [List.map_cons,Q9f key a,List.map_take,Qav h]
 rfl
theorem Q7T {α:Type} (l:List α) (n i:Nat) (d:α) (h:i < n):(l.take n).getD i d=l.getD i d:=by
 rw [List.getD_eq_getElem?_getD,List.getElem?_take,if_pos h,←List.getD_eq_getElem?_getD]
theorem QhC {w:World} {base C:Nat} {k h:Option Addr} {q f d:Nat} {a c:List Hd} {key:Int} {l:List Bk} {R:List (List (List Int))} (u:C≤w.heap.size) (x:ownL Q0H 51 w base (.slice k q f) (((h,8,d)::a).take 3)) (t:ownL Q0H 47 w base (.slice h 8 d) c) (z:Tab (fun b=> Q19 key b l) 8 w base c) (v:a.length=R.length) (y:∀i,i < R.length→RcT 0 C w (hv a i) (R.getD i [])):RcR 0 w.heap.size w (.slice k q f) ((Q38 key l::R).take 3):=by
 refine ⟨((h,8,d)::a).take 3,by simp [v],(InRow.ri (InRow.of x)).mono (Kcq _) (Kaq _),fun i hi=> ?_⟩
 have g:i < 3:=by simp at hi;omega
 have r:hv (((h,8,d)::a).take 3) i=hv ((h,8,d)::a) i:=by unfold hv;rw [Q7T _ _ _ _ g]
 have s:((Q38 key l::R).take 3).getD i []=(Q38 key l::R).getD i []:=Q7T _ _ _ _ g;rw [r,s]
 cases i with
 |zero=>
  have m:=Qbl z;refine ⟨c,m.len,(InRow.ri (InRow.of t)).mono (Kcq _) (Kaq _),fun j p=> ⟨(InRow.ri (InRow.of (m.row j p))).mono (Kcq _) (Kaq _),InRow.cap (InRow.of (m.row j p))⟩⟩
 |succ i=>
  have n:i < R.length:=by simp at hi;omega
  exact RcT.mon.go (y i n) (Kaq _) u
theorem Qi0 {m:Pm} (k i g:Int) (h:Q3q m):Q3q (Qau m k i g):=by
 unfold Qau
 split
 ·next c=>
  split
  ·exact h
  ·next l v=>
   simp only [Bool.and_eq_true] at c;obtain ⟨z,h2,A,B,u⟩:=Q1B c.1;have d:=Q8y h2 c.2 v;have s:=Q4F d
   have a:∀q,q < ((Q38 m.key l::m.ring).take 3).length→(((Q38 m.key l::m.ring).take 3).getD q []).length=8∧∀j,((((Q38 m.key l::m.ring).take 3).getD q []).getD j []).length≤2:=fun q b=> by
    have n:q < 3:=by simp at b;omega
    have t:((Q38 m.key l::m.ring).take 3).getD q []=(Q38 m.key l::m.ring).getD q []:=Q7T _ _ _ _ n;rw [t]
    cases q with
    |zero=> exact ⟨Q1O _ _,fun j=> Q71 _ _ j⟩
    |succ q=>
     have f:q < m.ring.length:=by simp at b;omega
     obtain ⟨x,y⟩:=Q6W (u q f);refine ⟨x,fun j=> ?_⟩
     by_cases r:j < 8
     ·exact Q9t (y j r)
     ·show ((m.ring.getD q []).getD j []).length≤2
      rw [List.getD_eq_getElem?_getD,List.getElem?_eq_none (by omega)];simp
   have w:((Q38 m.key l::m.ring).take 3).length≤3:=by simp;omega
   have p:∀q,Qc1 ((Q38 m.key l::m.ring).take 3) q≤16:=fun q=> by
    by_cases b:q < ((Q38 m.key l::m.ring).take 3).length
    ·unfold Qc1 szT
     have:=Q5a (QiL (((Q38 m.key l::m.ring).take 3).getD q [])) 2 (fun j=> (a q b).2 j) (((Q38 m.key l::m.ring).take 3).getD q []).length;rw [(a q b).1] at this ⊢;omega
    ·unfold Qc1;rw [List.getD_eq_getElem?_getD,List.getElem?_eq_none (by omega)];exact Kcq _
   refine ⟨by show l.length≤_;omega,by show ((Q38 m.key l::m.ring).take 3).length≤_;omega, ?_,fun q b=> ?_,fun q b j r=> ?_⟩
   ·have:=Q5a (Qc1 ((Q38 m.key l::m.ring).take 3)) 16 p ((Q38 m.key l::m.ring).take 3).length
    show QdR (Qc1 ((Q38 m.key l::m.ring).take 3)) ((Q38 m.key l::m.ring).take 3).length≤_
    have hm:16 * ((Q38 m.key l::m.ring).take 3).length≤48:=by omega
    omega
   ·have:=(a q b).1
    show (((Q38 m.key l::m.ring).take 3).getD q []).length≤_
    omega
   ·have:=(a q b).2 j
    show ((((Q38 m.key l::m.ring).take 3).getD q []).getD j []).length≤_
    omega
 ·exact ⟨by simp [pm0],by simp [pm0],by simp [pm0,szR,QdR],fun i hi=> absurd hi (Nat.not_lt_zero _),fun i hi=> absurd hi (Nat.not_lt_zero _)⟩
theorem Q9j (v:Value) (m:Pm) (k i g:Int) (w:World) (hR:RcPm 0 w.heap.size w v m) (hf:Q3q m):
  Calls Tryz.prog 123 #[v,cmd k i g] w fun e w'=> ∃v',e=.returned (.tuple #[v',.bool (Qia m k i g)])∧InPm w.heap.size w'.heap.size w' v' (Qau m k i g)∧Below w.heap.size w w':=by
 obtain ⟨vb,vr,rfl,aE,av,rr,aw⟩:=hR;obtain ⟨o,c,rfl,r⟩:=aE.open
 have ah:o=none→c=0:=fun e=> av _ _ (by rw [e])
 obtain ⟨oR,cR,rfl⟩:=RiR.len (RcR.ri rr)
 have aL:oR=none→cR=0:=fun e=> aw _ _ (by rw [e])
 clear aE av aw;obtain ⟨key,l,x⟩:=m;dsimp only at *;have H:=Q01 (show Qau ⟨key,l,x⟩ k i g=if (Q27 ⟨key,l,x⟩ && Q0J k i g)=true then (match doL l k i g with|none=> ⟨key,l,x⟩|some l'=> ⟨key,l',(Q38 key l'::x).take 3⟩) else pm0 from rfl);have I:=Q01 (show Qia ⟨key,l,x⟩ k i g=((Q27 ⟨key,l,x⟩ && Q0J k i g) && (doL l k i g).isSome) from rfl);have ao:=Q01 (fun h:Q27 ⟨key,l,x⟩=true=> Q1B h);have ap:=Q01 hf;obtain ⟨ax,aK,ay,az,aA⟩:=hf;dsimp only at ax aK ay az aA;clear ay az aA
 obtain ⟨W0,O⟩:∃W,(((w.alloc (.cells #[.int .i64 key,.slice o l.length c,.slice oR x.length cR] 29)).alloc (.cells #[.int .i64 k,.int .i64 i,.int .i64 g] 77)).alloc (.cells #[.int .i64 0,.slice none 0 0,.slice none 0 0] 29))=W:=⟨_,rfl⟩;have ad:=alb0v0v3 O;have p:=Q01 ad;clear ad;have j:=alz0v0v3 O;obtain ⟨E,F,G⟩:=alc3v0v3 O;have f:=alz0v1v3 O;obtain ⟨u0,u1,u2⟩:=alc3v1v3 O;have d:=alz0v2v3 O;obtain ⟨B,C,D⟩:=alc3v2v3 O;obtain ⟨s,t,u⟩:=alf3v2v3 O;have aV:=d
 have ai:=Q01 (Q74 key o c l oR cR x x.length rfl W0 ((r.kept p.out (Kaq _)).le p.out.size) (RiR.mon.go (RiR.stp.go (RcR.ri rr) (Stp.of (lo:=0) (hi:=0) p.out) (.inl (Kcq _))) (Kaq _) p.out.size) ap.out);have P:=Q01 (fun W=> Q4O k i g W);have aq:=Q01 r;clear r rr;have aU:=p.out.size
 cases hp:Q27 ⟨key,l,x⟩ with
 |false=>
  rw [hp] at H I;go_enter Tryz.func123,Tryz.ntmps123;go_wp2_with fail;refine ai.out.mono ?_;rintro e v1 ⟨vP,rfl,_,h2,a⟩;have e2:=h2 hp;subst e2;rw [hp];clear h2;replace E:=bC a E j;replace F:=bC a F j;replace G:=bC a G j;replace j:=Kbq j a.size;replace u0:=bC a u0 f;replace u1:=bC a u1 f;replace u2:=bC a u2 f;replace f:=Kbq f a.size;replace B:=bC a B d;replace C:=bC a C d;replace D:=bC a D d;replace s:=bF a s d;replace t:=bF a t d;replace u:=bF a u d;replace d:=Kbq d a.size;replace p:=Q01 (p.out.trans (a.mono p.out.size))
  clear a;have A:Below v1.heap.size v1 (v1.alloc (.cells #[.int .i64 0,.slice none 0 0,.slice none 0 0] 127)):=(Below.refl _ _).alloc (Kaq _) _;replace E:=bC A E j;replace F:=bC A F j;replace G:=bC A G j;replace j:=Kbq j A.size;replace u0:=bC A u0 f;replace u1:=bC A u1 f;replace u2:=bC A u2 f;replace f:=Kbq f A.size;replace B:=bC A B d;replace C:=bC A C d;replace D:=bC A D d;replace s:=bF A s d;replace t:=bF A t d;replace u:=bF A u d;replace d:=Kbq d A.size;replace p:=Q01 (p.out.trans (A.mono p.out.size));clear A
  generalize Q0J k i g=ck at *;go_wp2_with fail;refine (P.out _).mono ?_;rintro e v2 ⟨rfl,a⟩;replace E:=bC a E j;replace F:=bC a F j;replace G:=bC a G j;replace j:=Kbq j a.size;replace u0:=bC a u0 f;replace u1:=bC a u1 f;replace u2:=bC a u2 f;replace f:=Kbq f a.size;replace B:=bC a B d;replace C:=bC a C d;replace D:=bC a D d;replace s:=bF a s d;replace t:=bF a t d;replace u:=bF a u d;replace d:=Kbq d a.size;replace p:=Q01 (p.out.trans (a.mono p.out.size));clear a;generalize (if ck=true then Q9A k i g else .nilIface)=dv;go_wp2
  refine bodyPost_ret (v:=.tuple #[plv 0 (.slice none 0 0) (.slice none 0 0),.bool false]) (by simp [results,Tryz.results123,go_sem,B,C,D]) rfl ⟨plv 0 (.slice none 0 0) (.slice none 0 0),by rw [I.out];simp, ?_,Q0w p.out (by omega) _ _ _⟩;rw [H.out,if_neg (by simp)];exact Qae _ _ _ (Q0w p.out (show w.heap.size≤w.heap.size+1+1 by omega) _ _ _).size
 |true=>
  obtain ⟨hk,ag,aI,aJ,ak⟩:=ao.out hp;dsimp only at hk ag aI aJ ak;have HK:=Q01 hk;have aG:=Q01 ag;have ar:=Q01 ak;have aP:=Q4F ag;clear hk ag ak ao;rw [hp] at H I;have HP:=Q01 hp;clear hp
  cases hc:Q0J k i g with
  |false=>
   rw [hc] at P H I;simp only [Bool.false_eq_true,if_false] at P;go_enter Tryz.func123,Tryz.ntmps123;go_wp2_with fail;refine ai.out.mono ?_;rintro e v1 ⟨vP,rfl,h1,_,a⟩;obtain ⟨o2,c2,e2,N⟩:=h1 HP.out;dsimp only at e2 N;subst e2;rw [HP.out];have y:=Q01 N;have aM:=a.size;have aj:=Q01 (Q5H N);clear h1 N;have R:=Q01 (show (x.map Q37).length=x.length by simp);obtain ⟨n,hn⟩:∃n,x.length=n:=⟨_,rfl⟩;rw [hn] at y R ⊢;have HN:=Q01 hn;clear hn;replace E:=bC a E j;replace F:=bC a F j;replace G:=bC a G j;replace j:=Kbq j a.size;replace u0:=bC a u0 f
   replace u1:=bC a u1 f;replace u2:=bC a u2 f;replace f:=Kbq f a.size;replace B:=bC a B d;replace C:=bC a C d;replace D:=bC a D d;replace s:=bF a s d;replace t:=bF a t d;replace u:=bF a u d;replace d:=Kbq d a.size;replace p:=Q01 (p.out.trans (a.mono p.out.size));clear a;obtain ⟨W1,V⟩:∃W,(v1.alloc (.cells #[.int .i64 key,.slice o l.length c,.slice o2 n c2] 127))=W:=⟨_,rfl⟩;have b:=alb0v0v1 V;replace E:=bC b E j;replace F:=bC b F j;replace G:=bC b G j;replace j:=Kbq j b.size;replace u0:=bC b u0 f
   replace u1:=bC b u1 f;replace u2:=bC b u2 f;replace f:=Kbq f b.size;replace B:=bC b B d;replace C:=bC b C d;replace D:=bC b D d;replace s:=bF b s d;replace t:=bF b t d;replace u:=bF b u d;replace d:=Kbq d b.size;replace y:=Q01 (Q03 y.out b);replace p:=Q01 (p.out.trans (b.mono p.out.size));clear b;have z:=alz0v0v1 V;obtain ⟨X,Y,Z⟩:=alc3v0v1 V;have aD:=z;go_wp2_with fail;refine (P.out W1).mono ?_;rintro e v2 ⟨rfl,a⟩;have aN:=a.size;replace E:=bC a E j;replace F:=bC a F j
   replace G:=bC a G j;replace j:=Kbq j a.size;replace u0:=bC a u0 f;replace u1:=bC a u1 f;replace u2:=bC a u2 f;replace f:=Kbq f a.size;replace B:=bC a B d;replace C:=bC a C d;replace D:=bC a D d;replace s:=bF a s d;replace t:=bF a t d;replace u:=bF a u d;replace d:=Kbq d a.size;replace X:=bC a X z;replace Y:=bC a Y z;replace Z:=bC a Z z;replace z:=Kbq z a.size;replace y:=Q01 (Q03 y.out a);replace p:=Q01 (p.out.trans (a.mono p.out.size));clear a;go_wp2
   refine bodyPost_ret (v:=.tuple #[plv 0 (.slice none 0 0) (.slice none 0 0),.bool false]) (by simp [results,Tryz.results123,go_sem,B,C,D]) rfl ⟨plv 0 (.slice none 0 0) (.slice none 0 0),by rw [I.out];simp, ?_,Q0w p.out (by omega) _ _ _⟩;rw [H.out,if_neg (by simp)];exact Qae _ _ _ (Q0w p.out (show w.heap.size≤w.heap.size+1+1 by omega) _ _ _).size
  |true=>
   have am:=Q01 (fun W h1=> Q3n o c l k i g W h1 ah (by omega) hc);have an:=Q01 (fun l' h=> Q8y aG.out hc h (m:=l'));rw [hc] at P H I;simp only [if_true] at P;clear hc;generalize Q9A k i g=dv at *;go_enter Tryz.func123,Tryz.ntmps123;go_wp2_with fail;refine ai.out.mono ?_;rintro e v1 ⟨vP,rfl,h1,_,a⟩;obtain ⟨o2,c2,e2,N⟩:=h1 HP.out;dsimp only at e2 N;subst e2;rw [HP.out];have y:=Q01 N;have aM:=a.size;have aj:=Q01 (Q5H N);clear h1 N;have R:=Q01 (show (x.map Q37).length=x.length by simp);obtain ⟨n,hn⟩:∃n,x.length=n:=⟨_,rfl⟩;rw [hn] at y R ⊢;have HN:=Q01 hn
   clear hn;replace E:=bC a E j;replace F:=bC a F j;replace G:=bC a G j;replace j:=Kbq j a.size;replace u0:=bC a u0 f;replace u1:=bC a u1 f;replace u2:=bC a u2 f;replace f:=Kbq f a.size;replace B:=bC a B d;replace C:=bC a C d;replace D:=bC a D d;replace s:=bF a s d;replace t:=bF a t d;replace u:=bF a u d;replace d:=Kbq d a.size;replace p:=Q01 (p.out.trans (a.mono p.out.size));clear a;obtain ⟨W1,V⟩:∃W,(v1.alloc (.cells #[.int .i64 key,.slice o l.length c,.slice o2 n c2] 127))=W:=⟨_,rfl⟩;have b:=alb0v0v1 V
   replace E:=bC b E j;replace F:=bC b F j;replace G:=bC b G j;replace j:=Kbq j b.size;replace u0:=bC b u0 f;replace u1:=bC b u1 f;replace u2:=bC b u2 f;replace f:=Kbq f b.size;replace B:=bC b B d;replace C:=bC b C d;replace D:=bC b D d;replace s:=bF b s d;replace t:=bF b t d;replace u:=bF b u d;replace d:=Kbq d b.size;replace y:=Q01 (Q03 y.out b);replace p:=Q01 (p.out.trans (b.mono p.out.size));clear b;have z:=alz0v0v1 V;obtain ⟨X,Y,Z⟩:=alc3v0v1 V;have aD:=z
   go_wp2_with fail;refine (P.out W1).mono ?_;rintro e v2 ⟨rfl,a⟩;have aN:=a.size;replace E:=bC a E j;replace F:=bC a F j;replace G:=bC a G j;replace j:=Kbq j a.size;replace u0:=bC a u0 f;replace u1:=bC a u1 f;replace u2:=bC a u2 f;replace f:=Kbq f a.size;replace B:=bC a B d;replace C:=bC a C d;replace D:=bC a D d;replace s:=bF a s d;replace t:=bF a t d;replace u:=bF a u d;replace d:=Kbq d a.size;replace X:=bC a X z;replace Y:=bC a Y z;replace Z:=bC a Z z;replace z:=Kbq z a.size;replace y:=Q01 (Q03 y.out a)
   replace p:=Q01 (p.out.trans (a.mono p.out.size));clear a;have aa:=Q01 (am.out v2 ((aq.out.kept p.out (Kaq _)).le p.out.size))
   cases hdo:doL l k i g with
   |none=>
    rw [hdo] at aa H I;simp only [Option.isSome_none] at aa;clear hdo;go_wp2_with fail;refine (aa.out).mono ?_;rintro e v3 ⟨v5,rfl,_,a⟩;have aO:=a.size
    skip
    replace E:=bC a E j;replace F:=bC a F j;replace G:=bC a G j;replace j:=Kbq j a.size;replace u0:=bC a u0 f;replace u1:=bC a u1 f;replace u2:=bC a u2 f;replace f:=Kbq f a.size;replace B:=bC a B d;replace C:=bC a C d;replace D:=bC a D d;replace s:=bF a s d;replace t:=bF a t d;replace u:=bF a u d;replace d:=Kbq d a.size;replace X:=bC a X z;replace Y:=bC a Y z;replace Z:=bC a Z z;replace z:=Kbq z a.size;replace y:=Q01 (Q03 y.out a);replace p:=Q01 (p.out.trans (a.mono p.out.size));clear a
    have U:=Q01 (Q5l key o c l o2 c2 (x.map Q37) v3 ((aq.out.kept p.out (Kaq _)).le p.out.size) ah ax (ownL.rds (L:=Q21) y.out) (by rw [R.out];have:=HN.out;omega));rw [Qav ar.out,R.out] at U;go_wp2_with fail;refine (U.out).mono ?_;rintro e v4 ⟨v9,rfl,ae,a⟩;have ab:=Q01 ae;have aR:=a.size;clear ae;obtain ⟨o9,c9,M,J,e9⟩:∃(o9:Option Addr) (c9:Nat) (M:Option Addr) (J:Nat),v9=plv key (.slice o9 l.length c9) (.slice M x.length J):=ab.out.opn;subst e9;replace E:=bC a E j;replace F:=bC a F j;replace G:=bC a G j;replace j:=Kbq j a.size
    replace u0:=bC a u0 f;replace u1:=bC a u1 f;replace u2:=bC a u2 f;replace f:=Kbq f a.size;replace B:=bC a B d;replace C:=bC a C d;replace D:=bC a D d;replace s:=bF a s d;replace t:=bF a t d;replace u:=bF a u d;replace d:=Kbq d a.size;replace X:=bC a X z;replace Y:=bC a Y z;replace Z:=bC a Z z;replace z:=Kbq z a.size;replace y:=Q01 (Q03 y.out a);replace p:=Q01 (p.out.trans (a.mono p.out.size));clear a;go_wp2
    refine bodyPost_ret (v:=.tuple #[plv key (.slice o9 l.length c9) (.slice M x.length J),.bool false]) (by simp [results,Tryz.results123,go_sem,B,C,D]) rfl ⟨plv key (.slice o9 l.length c9) (.slice M x.length J),by rw [I.out];simp, ?_,Q0w p.out (by omega) _ _ _⟩;rw [H.out,if_pos (by simp),Q2T];exact InPm.mono (ab.out.step (Q3f v4 (w.heap.size+1+1) _ _ _) (.inl (by omega))) (by omega)
   |some mm=>
    have ac:=Q01 (an.out mm hdo);rw [hdo] at aa H I;simp only [Option.isSome_some] at aa;dsimp only at H;clear hdo an am;go_wp2_with fail;refine (aa.out).mono ?_;rintro e v3 ⟨v5,rfl,af,a⟩;have aO:=a.size;have al:=af mm rfl;obtain ⟨o5,c5,e5,_⟩:=ownL.open (L:=Q1d) al;subst e5;have T:=Q01 al;clear af al;replace E:=bC a E j;replace F:=bC a F j;replace G:=bC a G j;replace j:=Kbq j a.size;replace u0:=bC a u0 f;replace u1:=bC a u1 f;replace u2:=bC a u2 f;replace f:=Kbq f a.size;replace B:=bC a B d;replace C:=bC a C d
    replace D:=bC a D d;replace s:=bF a s d;replace t:=bF a t d;replace u:=bF a u d;replace d:=Kbq d a.size;replace X:=bC a X z;replace Y:=bC a Y z;replace Z:=bC a Z z;replace z:=Kbq z a.size;replace y:=Q01 (Q03 y.out a);replace p:=Q01 (p.out.trans (a.mono p.out.size));clear a;have aQ:=Q4F ac.out;have au:=Q01 (Q9L key o l.length c o2 c2 o5 c5 mm v3 (x.map Q37) (by rw [R.out];have:=HN.out;omega) (ownL.rds (L:=Q21) y.out) aj.out.1 aj.out.2 (ownL.rds (L:=Q1d) T.out) (by omega) HK.out ac.out);rw [R.out] at au;go_wp2_with fail
    refine (au.out).mono ?_;rintro e v6 ⟨o7,c7,rfl,aF,a⟩;have aS:=a.size;have aH:=Q01 aF;clear aF;replace E:=bC a E j;replace F:=bC a F j;replace G:=bC a G j;replace j:=Kbq j a.size;replace u0:=bC a u0 f;replace u1:=bC a u1 f;replace u2:=bC a u2 f;replace f:=Kbq f a.size;replace B:=bC a B d;replace C:=bC a C d;replace D:=bC a D d;replace s:=bF a s d;replace t:=bF a t d;replace u:=bF a u d;replace d:=Kbq d a.size;replace X:=bC a X z;replace Y:=bC a Y z;replace Z:=bC a Z z;replace z:=Kbq z a.size
    replace y:=Q01 (Q03 y.out a);replace T:=Q01 (Q03 T.out a);replace p:=Q01 (p.out.trans (a.mono p.out.size));clear a;have U:=Q01 (Q5l key o5 c5 mm o7 c7 (Q2K key mm::(x.map Q37).take 2) v6 (ownL.rds (L:=Q1d) T.out) (Q5A T.out) (by omega) (ownL.rds (L:=Q21) aH.out) (by simp;omega));rw [QfM ac.out ar.out] at U;obtain ⟨nq,aB⟩:∃q,(Q2K key mm::(x.map Q37).take 2).length=q:=⟨_,rfl⟩;rw [aB] at U ⊢;obtain ⟨rg,aC⟩:∃q,(Q38 key mm::x).take 3=q:=⟨_,rfl⟩;rw [aC] at U H;clear aB aC;go_wp2_with fail;refine (U.out).mono ?_;rintro e v7 ⟨v9,rfl,ae,a⟩
    have ab:=Q01 ae;have aT:=a.size;clear ae;obtain ⟨o9,c9,M,J,e9⟩:∃(o9:Option Addr) (c9:Nat) (M:Option Addr) (J:Nat),v9=plv key (.slice o9 mm.length c9) (.slice M rg.length J):=ab.out.opn;subst e9;replace E:=bC a E j;replace F:=bC a F j;replace G:=bC a G j;replace j:=Kbq j a.size;replace u0:=bC a u0 f;replace u1:=bC a u1 f;replace u2:=bC a u2 f;replace f:=Kbq f a.size;replace B:=bC a B d;replace C:=bC a C d;replace D:=bC a D d;replace s:=bF a s d;replace t:=bF a t d;replace u:=bF a u d;replace d:=Kbq d a.size
    replace X:=bC a X z;replace Y:=bC a Y z;replace Z:=bC a Z z;replace z:=Kbq z a.size;replace y:=Q01 (Q03 y.out a);replace T:=Q01 (Q03 T.out a);replace p:=Q01 (p.out.trans (a.mono p.out.size));clear a;go_wp2;refine bodyPost_ret (v:=.tuple #[plv key (.slice o9 mm.length c9) (.slice M rg.length J),.bool true]) (by simp [results,Tryz.results123,go_sem,B,C,D]) rfl ⟨plv key (.slice o9 mm.length c9) (.slice M rg.length J),by rw [I.out];simp, ?_,Q0w p.out (by omega) _ _ _⟩;rw [H.out,if_pos (by simp),Q2T]
    exact InPm.mono (ab.out.step (Q3f v7 (w.heap.size+1+1) _ _ _) (.inl (by omega))) (by omega)
theorem InPm.stps:Stps InPm:=⟨fun h s hd=> InPm.step h s hd⟩
theorem Q0f {W:World} {B:Nat} {c:Array Value} {t:TypeId} (h:W.heap[B]? =some (.cells c t (0,0))) (j:Nat) (u:Value) (hj:c[j]? =some u):W.cell? ⟨B,j,none⟩=some u:=Q00 h j u hj
theorem Qjp {P:Nat→Nat→World→Value→Pm→Prop} (u:Stps P) {b W:World} {B lo hi:Nat} {f:Value} {a:Pm} {o g:Option Addr} {c d:Nat} {x y z:Value} (v:W.heap[B]? =some (.cells #[x,y,z] 29 (0,0))) (w:Below b.heap.size b W) (n:b.heap.size≤B) (j:P lo hi W (plv a.key (.slice o a.l.length c) (.slice g a.ring.length d)) a) (s:b.heap.size≤lo) (h2:hi≤W.heap.size) (t:B < lo∨hi≤B):
  ∃B' lo hi p m i h,Value.pointer (some ⟨B,0,none⟩)=.pointer (some ⟨B',0,none⟩)∧f=f∧Hid ((setP W B (.int .i64 a.key) (.slice o a.l.length c) (.slice g a.ring.length d)).heap[B']? =some (.cells #[.int .i64 a.key,.slice p a.l.length m,.slice i a.ring.length h] 29 (0,0)))∧Hid (Below b.heap.size b (setP W B (.int .i64 a.key) (.slice o a.l.length c) (.slice g a.ring.length d)))∧b.heap.size≤B'∧B' < (setP W B (.int .i64 a.key) (.slice o a.l.length c) (.slice g a.ring.length d)).heap.size∧Hid (P lo hi (setP W B (.int .i64 a.key) (.slice o a.l.length c) (.slice g a.ring.length d)) (plv a.key (.slice p a.l.length m) (.slice i a.ring.length h)) a)∧b.heap.size≤lo∧hi≤(setP W B (.int .i64 a.key) (.slice o a.l.length c) (.slice g a.ring.length d)).heap.size∧(B' < lo∨hi≤B'):=by
 have q:=Q06 v 0 (.int .i64 a.key);have r:=Q06 q 1 (.slice o a.l.length c);have k:=Q06 r 2 (.slice g a.ring.length d);exact ⟨B,lo,hi,o,c,g,d,rfl,rfl,k,Q0w w n _ _ _,n,(Array.getElem?_eq_some_iff.1 k).1,u.go j (Q3f W B _ _ _) (by omega),s,by rw [Q2T];exact h2,t⟩
theorem Qjd {P:Nat→Nat→World→Value→Pm→Prop} (q:Stps P) {b W:World} {lo hi:Nat} {f:Value} {a:Pm} {o g:Option Addr} {c d:Nat} (k:Below b.heap.size b W) (j:P lo hi W (plv a.key (.slice o a.l.length c) (.slice g a.ring.length d)) a) (p:b.heap.size≤lo) (h2:hi≤W.heap.size):
  ∃B' lo hi n m i h,Value.pointer (some ⟨W.heap.size,0,none⟩)=.pointer (some ⟨B',0,none⟩)∧f=f∧Hid ((W.alloc (.cells #[.int .i64 a.key,.slice o a.l.length c,.slice g a.ring.length d] 29)).heap[B']? =some (.cells #[.int .i64 a.key,.slice n a.l.length m,.slice i a.ring.length h] 29 (0,0)))∧Hid (Below b.heap.size b (W.alloc (.cells #[.int .i64 a.key,.slice o a.l.length c,.slice g a.ring.length d] 29)))∧b.heap.size≤B'∧B' < (W.alloc (.cells #[.int .i64 a.key,.slice o a.l.length c,.slice g a.ring.length d] 29)).heap.size∧Hid (P lo hi (W.alloc (.cells #[.int .i64 a.key,.slice o a.l.length c,.slice g a.ring.length d] 29)) (plv a.key (.slice n a.l.length m) (.slice i a.ring.length h)) a)∧b.heap.size≤lo∧hi≤(W.alloc (.cells #[.int .i64 a.key,.slice o a.l.length c,.slice g a.ring.length d] 29)).heap.size∧(B' < lo∨hi≤B'):=
 ⟨W.heap.size,lo,hi,o,c,g,d,rfl,rfl,World.alloc_heap_new W _,k.alloc k.size _,k.size,by simp,q.go j (Stp.of (lo:=0) (hi:=0) ((Below.refl _ _).alloc (Kaq _) _)) (.inl (Kcq _)),p,by simp;omega,.inr h2⟩
theorem Qcm {cs:List Cd} {a i g:Int} {m:List Bk} (j:(Q1n cs cs.length).isSome=true) (b:Q0J a i g=true) (c:doL (Q0k cs cs.length) a i g=some m):(Q1n (cs++[(a,i,g)]) (cs++[(a,i,g)]).length).isSome=true:=by
 obtain ⟨l,d⟩:=Option.isSome_iff_exists.1 j
 have f:Q0k cs cs.length=l:=by unfold Q0k;rw [d];rfl
 rw [f] at c
 have h:Q1n (cs++[(a,i,g)]) (cs++[(a,i,g)]).length=Q6J (Q1n cs cs.length) (a,i,g):=by
  unfold Q1n;rw [List.take_length,List.take_length,List.foldl_append]
  rfl
 rw [h,d];unfold Q6J;simp [b,c]
theorem QeT {cs:List Cd} {c:Cd}:∀q,q≤cs.length→Q1n (cs++[c]) q=Q1n cs q:=fun q h=> by
 unfold Q1n;rw [List.take_append_of_le_length h]
theorem Qcv {cs:List Cd} {c:Cd}:∀q,q≤cs.length→Q1u (cs++[c]) q=Q1u cs q
 |0,_=> rfl
 |q+1,h=> by
  unfold Q1u;rw [Qcv q (by omega)];unfold Q0k;rw [QeT (q+1) h]
theorem QeO (cs:List Cd):∀q,(Q1u cs q).getD 0 []=Q0k cs q
 |0=> rfl
 |q+1=> by unfold Q1u;simp
theorem Qal {key safe:Int} {cs:List Cd} (h:Q0s key cs safe=true):∀q,q≤cs.length→∀l∈Q1u cs q,Q0e l=true
 |0,_,l,a=> by
  have:l=[]:=by simpa [Q1u] using a
  subst this;exact (Q2Z h 0 (by omega)).1
 |q+1,hq,l,a=> by
  unfold Q1u at a;have a:=List.mem_of_mem_take a
  rcases List.mem_cons.1 a with e|a
  ·rw [e];exact (Q2Z h (q+1) (by omega)).1
  ·exact Qal h q (by omega) l a
theorem Qgr (cs:List Cd):∀q,1≤(Q1u cs q).length
 |0=> by simp [Q1u]
 |q+1=> by unfold Q1u;simp
theorem Q44 {m:Jm} (h:Q0s m.key m.l m.safe=true):Q27 (Q0Q m)=true:=by
 have e:Q0Q m=⟨m.key,Q0k m.l m.l.length,Q1e m.key (Q1u m.l m.l.length)⟩:=by unfold Q0Q;rw [if_pos h]
 have d:=Q7P m.l m.l.length;have c:=Qgr m.l m.l.length
 have b:(Q1e m.key (Q1u m.l m.l.length)).length=(Q1u m.l m.l.length).length:=by simp [Q1e]
 have a:=(Q2Z h m.l.length (by omega)).1;rw [e];refine Qff (Q0X h).1 a (by dsimp only;omega) (by dsimp only;omega) (fun i hi=> ?_) ?_
 ·dsimp only at hi ⊢
  rw [Q30 _ _ _ (by omega)];refine Qa4 m.key (Qal h m.l.length (Kaq _) _ ?_);rw [List.getD_eq_getElem?_getD,List.getElem?_eq_getElem (by omega)];exact List.getElem_mem _
 ·dsimp only
  rw [Q30 _ _ _ (by omega),QeO];unfold Q1k;rw [if_pos ⟨Q1O _ _,Q1O _ _⟩];exact Q3w 8 (fun _ _=> rfl)
theorem Qch {m:Jm} {a i g:Int} (h:Q3L m a i g=true):Q0s m.key m.l m.safe=true∧Q0s (Q3F m a i g).key (Q3F m a i g).l (Q3F m a i g).safe=true∧Qia (Q0Q m) a i g=true∧Qau (Q0Q m) a i g=Q0Q (Q3F m a i g)∧(Q3F m a i g).safe=((Q3F m a i g).l.length:Int)∧1≤(Q0Q (Q3F m a i g)).ring.length∧(∀j,j < (Q0Q (Q3F m a i g)).ring.length→((Q0Q (Q3F m a i g)).ring.getD j []).length=8):=by
 unfold Q3L at h;rw [Bool.and_eq_true] at h;obtain ⟨s,h2⟩:=h
 have z:Q3F m a i g=⟨m.key,m.l++[(a,i,g)],(m.l.length:Int)+1⟩:=by unfold Q3F;rw [if_pos s,if_pos h2]
 unfold QeK at s;rw [Bool.and_eq_true] at s;obtain ⟨d,t⟩:=s;unfold Q89 at h2;rw [Bool.and_eq_true] at h2;obtain ⟨E,k⟩:=h2
 have G:m.l.length < 100:=by simpa using k
 obtain ⟨v,b⟩:=Option.isSome_iff_exists.1 E;have F:=Q0X d;have q:=Qcm (Q1W d) t b
 have f:Q0s m.key (m.l++[(a,i,g)]) ((m.l.length:Int)+1)=true:=by
  unfold Q0s;simp only [Bool.and_eq_true,decide_eq_true_eq];refine ⟨⟨⟨⟨F.1, ?_⟩, ?_⟩, ?_⟩,q⟩
  ·rw [List.length_append];simp;omega
  ·omega
  ·rw [List.length_append];simp
 have r:Q0k (m.l++[(a,i,g)]) (m.l.length+1)=v:=by
  have u:Q1n (m.l++[(a,i,g)]) (m.l.length+1)=Q6J (Q1n m.l m.l.length) (a,i,g):=by
   rw [Q3I (by simp),QeT _ (Kaq _)]
   congr 1
   simp
  obtain ⟨I,n⟩:=Option.isSome_iff_exists.1 (Q1W d)
  have x:Q0k m.l m.l.length=I:=by unfold Q0k;rw [n];rfl
  rw [x] at b;unfold Q0k;rw [u,n];unfold Q6J;simp [t,b]
 have w:Q0Q m=⟨m.key,Q0k m.l m.l.length,Q1e m.key (Q1u m.l m.l.length)⟩:=by unfold Q0Q;rw [if_pos d]
 have c:(m.l++[(a,i,g)]).length=m.l.length+1:=by rw [List.length_append];rfl
 have A:Q0Q ⟨m.key,m.l++[(a,i,g)],(m.l.length:Int)+1⟩=⟨m.key,v,(Q38 m.key v::Q1e m.key (Q1u m.l m.l.length)).take 3⟩:=by
  unfold Q0Q;dsimp only;rw [if_pos f,c,r]
  congr 1
  show Q1e m.key (Q1u (m.l++[(a,i,g)]) (m.l.length+1))=_
  have y:Q1u (m.l++[(a,i,g)]) (m.l.length+1)=(Q0k (m.l++[(a,i,g)]) (m.l.length+1)::Q1u (m.l++[(a,i,g)]) m.l.length).take 3:=rfl;rw [y,r,Qcv _ (Kaq _)];unfold Q1e;rw [List.map_take,List.map_cons]
 have p:=Q44 d
 have D:Qia (Q0Q m) a i g=true:=by
  unfold Qia;rw [p,t,w];dsimp only;rw [b]
  rfl
 rw [z];refine ⟨d,f,D, ?_, ?_, ?_⟩
 ·rw [A]
  unfold Qau;rw [if_pos (by rw [p,t];rfl),w];dsimp only;rw [b]
 ·dsimp only;rw [c];simp
 ·have H:=Q44 (m:=⟨m.key,m.l++[(a,i,g)],(m.l.length:Int)+1⟩) f
  obtain ⟨_,_,B,_,C⟩:=Q1B H;exact ⟨B,fun j d=> (Q6W (C j d)).1⟩
def Q7X (out:List Int) (x:Int):List Int:=if out.contains x=true then out else out++[x]
def Q36 (out l:List Int):List Int:=l.foldl Q7X out
def Q3o (R:List (List (List Int))) (b:Nat):List Int:=R.foldl (fun out t=> Q36 out (t.getD b [])) []
def Qed (m:Pm) (b:Int):List Int:=if (Q27 m && decide (0≤b) && decide (b < 8))=true then Q3o m.ring b.toNat else []
theorem Qbp (a l:List Int) (k:Nat) (h:k < l.length):Q36 a (l.take (k+1))=Q7X (Q36 a (l.take k)) (l.getD k 0):=by
 unfold Q36;rw [List.take_succ_eq_append_getElem h,List.foldl_append,List.getD_eq_getElem?_getD,List.getElem?_eq_getElem h]
 rfl
theorem QdH (R:List (List (List Int))) (b i:Nat) (h:i < R.length):Q3o (R.take (i+1)) b=Q36 (Q3o (R.take i) b) ((R.getD i []).getD b []):=by
 unfold Q3o;rw [List.take_succ_eq_append_getElem h,List.foldl_append,List.getD_eq_getElem?_getD (l:=R),List.getElem?_eq_getElem h]
 rfl
theorem QeC {l:List Int} {k:Nat} {x:Int} (h:k < l.length) (e:l.getD k 0=x):l.contains x=true:=by
 rw [List.contains_iff_mem,←e,List.getD_eq_getElem?_getD,List.getElem?_eq_getElem h];exact List.getElem_mem h
theorem Qht {l:List Int} {x:Int} (h:∀j,j < l.length→l.getD j 0≠x):l.contains x=false:=by
 rw [Bool.eq_false_iff];intro a;rw [List.contains_iff_mem] at a;obtain ⟨j,b,e⟩:=List.getElem_of_mem a;exact h j b (by rw [List.getD_eq_getElem?_getD,List.getElem?_eq_getElem b];exact e)
theorem Qf0 {out:List Int} {x:Int} (h:out.contains x=true):Q7X out x=out:=by unfold Q7X;rw [if_pos h]
theorem QgS {out:List Int} {x:Int} (h:out.contains x=false):Q7X out x=out++[x]:=by unfold Q7X;rw [if_neg (by rw [h];decide)]
theorem Qen {l:List Int} {x:Int} {k:Nat} (h:∀j,j < k→l.getD j 0≠x) (h2:l.getD k 0≠x):∀j,j < k+1→l.getD j 0≠x:=fun j hj=> by
 by_cases e:j=k
 ·subst e;exact h2
 ·exact h j (by omega)
theorem Qhx {w:World} {x:Int} {T:TypeId}:RdL Q2x (w.alloc (.cells #[.int .i64 x] T)).heap.size (w.alloc (.cells #[.int .i64 x] T)) (some ⟨w.heap.size,0,none⟩) [x]:=
 .inr ⟨w.heap.size,0,rfl,by simp,fun i hi j b=> by
  have a:i=0:=by simpa using hi
  subst a
  match j,b with
  |0,_=> simp [Q2x]⟩
theorem QiC (o:Option Addr) (c:Nat) (l:List Int) (x:Int) (w:World) (g:RdI w.heap.size w o l) (s:l.length≤1048576):
  Calls Tryz.prog 104 #[.slice o l.length c,.int .i64 x] w fun e p=> e=.returned (.bool (l.contains x))∧p=w:=by
 go_enter Tryz.func104,Tryz.ntmps104;go_wp2
 go_loopw [5] (fun i wr=> ∃k:Nat,k≤l.length∧i=.int .i64 k∧wr=w∧Hid (∀j,j < k→l.getD j 0≠x))
  (fun i _=> l.length - (intOf i).toNat)
 case atStart=> exact ⟨0,Kcq _,rfl,rfl,fun j h=> absurd h (Nat.not_lt_zero _)⟩
 case round=>
  obtain ⟨k,r,rfl,rfl,d⟩:=hrel
  by_cases hlt:k < l.length
  ·rcases g with g|⟨b,off,rfl,q,a⟩
   ·subst g;simp at hlt
   have m:=RdL.int a k hlt;clear a
   have t:(k:Int) < (l.length:Int):=by omega
   by_cases hx:l.getD k 0=x
   ·have f:=Q01 (QeC hlt hx)
    rw [hx] at m;clear hx d;go_wp2;go_ret;exact ⟨by rw [f.out];rfl,rfl⟩
   ·have f:=Q01 (Qen d.out hx)
    obtain ⟨y,n⟩:∃y,l.getD k 0=y:=⟨_,rfl⟩;rw [n] at m hx;clear n d;go_wp2;go_roundw
    case rel=> exact ⟨k+1,by omega,by go_num,by trivial,f.out⟩
    case measure=> simp [intOf];omega
  ·have e:k=l.length:=by omega
   subst e;have f:=Q01 (Qht d.out);clear d;go_wp2;go_ret;exact ⟨by rw [f.out];rfl,rfl⟩
theorem QdS (o:Option Addr) (c:Nat) (l:List Int) (x:Int) (w:World) (g:RdI w.heap.size w o l) (u:l.length≤1048576):
  Calls Tryz.prog 176 #[.slice o l.length c,.int .i64 x] w fun e q=> ∃r:Int,e=.returned (.int .i64 r)∧decide (0≤r)=l.contains x∧q=w:=by
 go_enter Tryz.func176,Tryz.ntmps176;go_wp2
 go_loopw [8] (fun i wr=> ∃k:Nat,k≤l.length∧i=.int .i64 k∧wr=w∧Hid (∀j,j < k→l.getD j 0≠x))
  (fun i _=> l.length - (intOf i).toNat)
 case atStart=> exact ⟨0,Kcq _,rfl,rfl,fun j h=> absurd h (Nat.not_lt_zero _)⟩
 case round=>
  obtain ⟨k,t,rfl,rfl,d⟩:=hrel
  by_cases hlt:k < l.length
  ·rcases g with g|⟨b,off,rfl,s,a⟩
   ·subst g;simp at hlt
   have m:=RdL.int a k hlt;clear a
   have v:(k:Int) < (l.length:Int):=by omega
   by_cases hx:l.getD k 0=x
   ·have f:=Q01 (QeC hlt hx)
    rw [hx] at m;clear hx d;go_wp2;go_ret;exact ⟨(k:Int),rfl,by rw [f.out];simp,rfl⟩
   ·have f:=Q01 (Qen d.out hx)
    obtain ⟨y,n⟩:∃y,l.getD k 0=y:=⟨_,rfl⟩;rw [n] at m hx
    have p:¬x=y:=fun e=> hx e.symm
    clear n d;go_wp2;go_roundw
    case rel=> exact ⟨k+1,by omega,by go_num,by trivial,f.out⟩
    case measure=> simp [intOf];omega
  ·have e:k=l.length:=by omega
   subst e;have f:=Q01 (Qht d.out);clear d;go_wp2;go_ret;exact ⟨-1,rfl,by rw [f.out];rfl,rfl⟩
theorem Qb5 (o:Option Addr) (c:Nat) (l:List Int) (x:Int) (w:World) (b:RdI w.heap.size w o l) (g:l.length≤1048576):
  Calls Tryz.prog 145 #[.slice o l.length c,.int .i64 x] w fun e h=> e=.returned (.bool (l.contains x))∧h=w:=by
 have a:=Q01 (QdS o c l x w b g);clear b;go_enter Tryz.func145,Tryz.ntmps145;go_wp2_with fail;refine a.out.mono ?_;rintro e i ⟨r,rfl,d,rfl⟩;have f:=Q01 d;clear d a;go_wp2;go_ret;exact ⟨by rw [←f.out];rfl,rfl⟩
theorem Q4S {ll:List (List Int)} (h:Q1s ll=true):ll.length=8∧∀b,b < 8→Q0T (ll.getD b [])=true:=by
 unfold Q1s at h;simp only [Bool.and_eq_true,decide_eq_true_eq,List.all_eq_true,List.mem_range] at h;exact ⟨h.1,h.2⟩
structure JInv (k B R C:Nat) (w0 wr:World) (key:Int) (cs:List Cd) (o:Option Addr) (c:Nat):Prop where
 box:wr.heap[B]? =some (.cells #[.int .i64 key,.slice o cs.length c,.int .i64 0] 25 (0,0))
 res:wr.heap[R]? =some (.cells #[.int .i64 0,.slice none 0 0,.int .i64 0] 25 (0,0))
 own:Qcs wr C (.slice o cs.length c) cs
 dr:Dr k w0 wr
theorem JInv.draw {k B R C:Nat} {b wr x:World} {key:Int} {cs:List Cd} {o:Option Addr} {c:Nat} (h:JInv k B R C b wr key cs o c) (d:isCur k x) (a:wr.grownBy x (some k)) (j:k < b.heap.size) (i:b.heap.size≤R) (f:R < B) (g:B < C):JInv k B R C b x key cs o c:=
 ⟨Q0a a (Array.getElem?_eq_some_iff.1 h.box).1 (by omega) h.box,Q0a a (Array.getElem?_eq_some_iff.1 h.res).1 (by omega) h.res,Q3C h.own a (by omega),h.dr.step d a⟩
theorem JInv.below {k B R C:Nat} {b wr x:World} {key:Int} {cs:List Cd} {o:Option Addr} {c:Nat} (h:JInv k B R C b wr key cs o c) (a:Below wr.heap.size wr x) (d:k < b.heap.size):JInv k B R C b x key cs o c:=
 ⟨(a.block _ (Array.getElem?_eq_some_iff.1 h.box).1).trans h.box,(a.block _ (Array.getElem?_eq_some_iff.1 h.res).1).trans h.res,Q03 h.own a,h.dr.below d (a.mono h.dr.gr.size)⟩
theorem QeS (key:Int) (o:Option Addr) (cap:Nat) (l:List Bk) (d:Option Addr) (h:Nat) (a:List Hd) (k i g:Int) (w:World) (y:Q1P key=true) (s:Q0e l=true) (x:Q0J k i g=true) (b:l.length≤100) (r:RdK w.heap.size w o l) (v:RdL Q0H w.heap.size w d a) (p:d=none→h=0) (j:a.length≤3):
  Calls Tryz.prog 95 #[plv key (.slice o l.length cap) (.slice d a.length h),cmd k i g] w fun e q=> ∃u t c2 f A c,e=.returned (.tuple #[plv key (.slice u t c2) (.slice f A c),.bool (doL l k i g).isSome])∧Below w.heap.size w q:=by
 cases hm:doL l k i g with
 |none=>
  refine (Qex key o cap l d a.length h k i g w s hm b r).mono ?_;rintro e q ⟨rfl,n⟩;exact ⟨_,_,_,_,_,_,rfl,n⟩
 |some m=>
  refine (Q8V key o cap l d h a k i g m w y s x hm b r v p j).mono ?_;rintro e q ⟨u,c2,f,t,c,C,B,z,rfl,_,_,_,_,_,n⟩;exact ⟨_,_,_,_,_,_,rfl,n⟩
theorem QgZ (key:Int) (o:Option Addr) (cap:Nat) (cs:List Cd) (l:List Bk) (n:Nat) (r:n=cs.length) (w:World) (hs:Q0k cs cs.length=l) (k:RdC w.heap.size w o cs) (p:Q1P key=true) (q:cs.length≤100) (c:(Q1n cs cs.length).isSome=true):
  Calls Tryz.prog 43 #[.int .i64 key,.slice o n cap] w fun e b=> ∃g h d f a,e=.returned (plv key (.slice g l.length h) (.slice d a.length f))∧RdK b.heap.size b g l∧RdL Q0H b.heap.size b d a∧(d=none→f=0)∧a.length≤3∧Below w.heap.size w b:=by
 subst hs r;refine (Q6t key o cap cs w k p q c).mono ?_;rintro e b ⟨g,h,d,f,a,rfl,i,h2,_,j,m⟩;exact ⟨g,h,d,f,a,rfl,ownL.rds (L:=Q1d) i,ownL.rds (L:=Q0H) h2,Qji h2,j,m⟩
theorem Qjl {a W:World} {B:Nat} {x y z f:Value} (c:Below a.heap.size a W) (b:a.heap.size≤B):∃B',Value.pointer (some ⟨B,0,none⟩)=.pointer (some ⟨B',0,none⟩)∧f=f∧Hid (Below a.heap.size a (setP W B x y z)):=⟨B,rfl,rfl,Q0E c b _ _ _⟩
theorem Qja {a W:World} {x y z f:Value} {T:TypeId} (b:Below a.heap.size a W):∃B',Value.pointer (some ⟨W.heap.size,0,none⟩)=.pointer (some ⟨B',0,none⟩)∧f=f∧Hid (Below a.heap.size a (W.alloc (.cells #[x,y,z] T))):=⟨_,rfl,rfl,b.alloc b.size _⟩
theorem Qgb {w a:World} {c:Array Value} {T:TypeId} (b:Below (w.alloc (.cells c T)).heap.size (w.alloc (.cells c T)) a):a.heap[w.heap.size]? =some (.cells c T (0,0)):=
 (b.block w.heap.size (by simp)).trans (World.alloc_heap_new w (.cells c T))
theorem Qel {w a:World} {c:Array Value} {T:TypeId} (b:Below (w.alloc (.cells c T)).drew.heap.size (w.alloc (.cells c T)).drew a):a.heap[w.heap.size]? =some (.cells c T (0,0)):=
 (b.block w.heap.size (by simp)).trans (World.alloc_heap_new w (.cells c T))
theorem Q7E (k:Nat) (w:World) (hc:isCur k w) (hk:k < w.heap.size):
  Calls Tryz.prog 133 #[.pointer (some ⟨k,0,none⟩)] w fun e w'=> ∃v m,e=.returned v∧InJm w.heap.size w'.heap.size w' v m∧Q0s m.key m.l m.safe=true∧m.l.length≤10∧Dr k w w':=by
 obtain ⟨W0,ao⟩:∃W,w.alloc (.cells #[.int .i64 0,.slice none 0 0,.int .i64 0] 25)=W:=⟨_,rfl⟩;have bc:=alb0v0v1 ao;have aQ:=Q01 (show Dr k w W0 from ⟨hc.below (bc.mono hk),by rw [←ao];exact Q0t w _ k⟩);have a9:Hid _:=alx0v0v1 ao;have ai:=alz0v0v1 ao;clear bc hc;go_enter Tryz.func133,Tryz.ntmps133;go_wp2_with fail;refine (Q0p k 50 W0 aQ.out.cur (by decide) (by decide)).mono ?_;rintro e M ⟨key,rfl,bN,bA,be,ar⟩;have a2:=Q01 (aQ.out.step be ar);have ba:=Q01 (Q0a ar ai (by omega) a9.out);have y:w.heap.size < M.heap.size:=Kbq ai ar.size
 have T:=Q01 (show Q1P key=true by unfold Q1P;simp;omega);clear be ar a9 aQ ai;have aa:Below M.heap.size M (M.alloc (.cells #[.int .i64 key,.slice none 0 0,.int .i64 0] 25)):=(Below.refl _ _).alloc (Kaq _) _;have O:Hid ((M.alloc (.cells #[.int .i64 key,.slice none 0 0,.int .i64 0] 25)).heap[M.heap.size]? =some (.cells #[.int .i64 key,.slice none 0 0,.int .i64 0] 25 (0,0))):=World.alloc_heap_new M _;have bb:=Q01 ((aa.block _ y).trans ba.out);have aR:=Q01 (a2.out.below hk (aa.mono (Nat.le_of_lt y)))
 have bv:M.heap.size < ((M.alloc (.cells #[.int .i64 key,.slice none 0 0,.int .i64 0] 25))).heap.size:=by simp
 have a7:Hid (Qcs (M.alloc (.cells #[.int .i64 key,.slice none 0 0,.int .i64 0] 25)) (M.heap.size+1) (.slice none 0 0) []):=World.ownsRow_nil _ _ _ _
 have bp:Hid (((M.alloc (.cells #[.int .i64 key,.slice none 0 0,.int .i64 0] 25))).heap.size=M.heap.size+1):=by unfold Hid;simp
 clear aa ba a2;go_wp2_with fail;generalize (M.alloc (.cells #[.int .i64 key,.slice none 0 0,.int .i64 0] 25))=W2 at *;refine (Q0p k 10 W2 aR.out.cur (by decide) (by decide)).mono ?_;rintro e w3 ⟨n',rfl,bu,bD,bf,bh⟩;obtain ⟨n,rfl⟩:=Int.eq_ofNat_of_zero_le bu;have aT:=Q01 (JInv.draw (C:=M.heap.size+1) (⟨O.out,bb.out,a7.out,aR.out⟩:JInv k M.heap.size w.heap.size (M.heap.size+1) w W2 key [] none 0) bf bh hk (Kaq _) y (Nat.lt_succ_self _));clear bf bh O bb a7 aR bv bp;obtain ⟨B,hB⟩:∃B,M.heap.size=B:=⟨_,rfl⟩;simp only [hB] at aT y ⊢;clear hB;go_wp2
 go_loopw [5] (fun iv wr=> ∃(i:Nat) (cs:List Cd) (I:Option Addr) (H:Nat),i≤n∧iv=.int .i64 (i:Int)∧Hid (JInv k B w.heap.size (B+1) w wr key cs I H)∧cs.length≤i∧Hid ((Q1n cs cs.length).isSome=true))
  (fun iv _=> n - (intOf iv).toNat)
 case atStart=> exact ⟨0,[],none,0,Kcq _,rfl,aT.out,Kaq _,rfl⟩
 case round=>
  rename World=> wr
  obtain ⟨i,cs,I,H,bM,rfl,HJ,bL,N⟩:=hrel;clear aT;have a4:=Q01 (HJ.out.dr.lt hk)
  by_cases hlt:i < n
  ·have bB:(i:Int) < (n:Int):=by omega
   go_wp2_with fail;refine (Q77 k wr HJ.out.dr.cur a4.out).mono ?_;rintro e r ⟨a,J,g,rfl,bk,hd⟩;have a8:=Q01 bk;have aS:=Q01 (HJ.out.draw hd.cur hd.gr hk (Kaq _) y (Nat.lt_succ_self _));clear bk hd HJ a4;have bK:B < r.heap.size:=(Array.getElem?_eq_some_iff.1 aS.out.box).1;have aa:Below r.heap.size r (r.alloc (.cells #[.int .i64 a,.int .i64 J,.int .i64 g] 77)):=(Below.refl _ _).alloc (Kaq _) _
   have O:Hid ((r.alloc (.cells #[.int .i64 a,.int .i64 J,.int .i64 g] 77)).heap[r.heap.size]? =some (.cells #[.int .i64 a,.int .i64 J,.int .i64 g] 77 (0,0))):=World.alloc_heap_new r _;have am:=Q01 (aS.out.below aa hk)
   have D:r.heap.size < ((r.alloc (.cells #[.int .i64 a,.int .i64 J,.int .i64 g] 77))).heap.size:=by simp
   clear aa aS;obtain ⟨l,hl⟩:∃l,Q0k cs cs.length=l:=⟨_,rfl⟩;have HL:=Q01 hl
   have a5:=Q01 (show Q0e l=true∧l.length≤100 by
    have h:=Q4B (key:=key) (cs:=cs) (safe:=0) (by unfold Q0s;simp only [Bool.and_eq_true,decide_eq_true_eq];exact ⟨⟨⟨⟨T.out,by omega⟩,by omega⟩,by omega⟩,N.out⟩);rw [hl] at h
    exact h)
   obtain ⟨m,hm⟩:∃m,m=cs.length:=⟨_,rfl⟩;have HM:=Q01 hm
   have aP:Hid ((r.alloc (.cells #[.int .i64 a,.int .i64 J,.int .i64 g] 77)).heap[B]? =some (.cells #[.int .i64 key,.slice I m H,.int .i64 0] 25 (0,0))):=by unfold Hid;rw [hm];exact am.out.box
   have ad:=Q01 (fun W (G:Below ((r.alloc (.cells #[.int .i64 a,.int .i64 J,.int .i64 g] 77))).heap.size (r.alloc (.cells #[.int .i64 a,.int .i64 J,.int .i64 g] 77)) W)=> QgZ key I H cs l m hm W hl (((ownL.rds (L:=Q4j) am.out.own).kept G (Kaq _)).le G.size) T.out (by omega) N.out);have al:=Q01 (fun o1 c1 ak ae y W rk rr cr af=> QeS key o1 c1 l ak ae y a J g W T.out a5.out.1 a8.out a5.out.2 rk rr cr af)
   have bt:m≤i:=by omega
   clear hl hm;obtain ⟨t,ht⟩:∃t,(doL l a J g).isSome=t:=⟨_,rfl⟩;rw [ht] at al;have HT:=Q01 ht;clear ht;go_upto_region 7 with fail;generalize (r.alloc (.cells #[.int .i64 a,.int .i64 J,.int .i64 g] 77))=X2 at *
   have P:B < X2.heap.size:=by omega
   have z0:X2.cell? ⟨B,0,none⟩=some (.int .i64 key):=Q00 aP.out 0 _ rfl;have z1:X2.cell? ⟨B,1,none⟩=some (.slice I m H):=Q00 aP.out 1 _ rfl;have u0:X2.cell? ⟨r.heap.size,0,none⟩=some (.int .i64 a):=Q00 O.out 0 _ rfl;have u1:X2.cell? ⟨r.heap.size,1,none⟩=some (.int .i64 J):=Q00 O.out 1 _ rfl;have u2:X2.cell? ⟨r.heap.size,2,none⟩=some (.int .i64 g):=Q00 O.out 2 _ rfl
   go_cut [7,8] from 21 to 30 (fun s7 s8 wx=> ∃B',s7=.pointer (some ⟨B',0,none⟩)∧s8=.bool t∧Hid (Below X2.heap.size X2 wx))
   case first=>
    go_region_held3 (fun w'=> w'.cell? ⟨B,0,none⟩=some (.int .i64 key)∧w'.cell? ⟨B,1,none⟩=some (.slice I m H)∧w'.cell? ⟨r.heap.size,0,none⟩=some (.int .i64 a)∧w'.cell? ⟨r.heap.size,1,none⟩=some (.int .i64 J)∧w'.cell? ⟨r.heap.size,2,none⟩=some (.int .i64 g)) (first|with_reducible exact ⟨U,V,X,Y,Z⟩|with_reducible exact ⟨aK,aL,aM,aN,aO⟩|with_reducible exact ⟨z0,z1,u0,u1,u2⟩|with_reducible exact ⟨Q09 U (show B < X2.heap.size by omega),Q09 V (show B < X2.heap.size by omega),Q09 X (show r.heap.size < X2.heap.size by omega),Q09 Y (show r.heap.size < X2.heap.size by omega),Q09 Z (show r.heap.size < X2.heap.size by omega)⟩|with_reducible exact ⟨Q09 U (show B < b.heap.size by omega),Q09 V (show B < b.heap.size by omega),Q09 X (show r.heap.size < b.heap.size by omega),Q09 Y (show r.heap.size < b.heap.size by omega),Q09 Z (show r.heap.size < b.heap.size by omega)⟩|go_keep) (first|(go_at_call 43;have E:=ad.out X2.drew (Below.drew (Below.refl _ _));with_reducible refine E.mono ?_;clear E;rintro e b ⟨o1,c1,ak,ae,y,rfl,aZ,a0,aX,af,G⟩;have ah:Below X2.heap.size X2 b:=Below.trans (show Below X2.heap.size X2 X2.drew from (Below.drew (Below.refl _ _))) (G.mono (by simp));have bx:X2.heap.size≤b.heap.size:=ah.size;have x:Below X2.heap.size X2 b:=ah;have aK:=(x.cell (p:=⟨B,0,none⟩) P).trans z0;have aL:=(x.cell (p:=⟨B,1,none⟩) P).trans z1;have aM:=(x.cell (p:=⟨r.heap.size,0,none⟩) D).trans u0;have aN:=(x.cell (p:=⟨r.heap.size,1,none⟩) D).trans u1;have aO:=(x.cell (p:=⟨r.heap.size,2,none⟩) D).trans u2;(try have aH:=(Array.getElem?_eq_some_iff.1 A).1);clear G)|(go_at_call 43;have E:=ad.out (X2.alloc (.cells #[.int .i64 0,.slice none 0 0,.slice none 0 0] 29)).drew (Below.drew ((Below.refl _ _).alloc (Kaq _) _));with_reducible refine E.mono ?_;clear E;rintro e b ⟨o1,c1,ak,ae,y,rfl,aZ,a0,aX,af,G⟩;have ah:Below X2.heap.size X2 b:=Below.trans (show Below X2.heap.size X2 (X2.alloc (.cells #[.int .i64 0,.slice none 0 0,.slice none 0 0] 29)).drew from (Below.drew ((Below.refl _ _).alloc (Kaq _) _))) (G.mono (by simp));have bx:X2.heap.size≤b.heap.size:=ah.size;have x:Below X2.heap.size X2 b:=ah;have aK:=(x.cell (p:=⟨B,0,none⟩) P).trans z0;have aL:=(x.cell (p:=⟨B,1,none⟩) P).trans z1;have aM:=(x.cell (p:=⟨r.heap.size,0,none⟩) D).trans u0;have aN:=(x.cell (p:=⟨r.heap.size,1,none⟩) D).trans u1;have aO:=(x.cell (p:=⟨r.heap.size,2,none⟩) D).trans u2;have A:b.heap[X2.heap.size]? =some (.cells #[.int .i64 0,.slice none 0 0,.slice none 0 0] 29 (0,0)):=(Qel G);(try have aH:=(Array.getElem?_eq_some_iff.1 A).1);clear G)|(go_at_call 95;have E:=al.out o1 c1 ak ae y b aZ a0 aX af;with_reducible refine E.mono ?_;clear E;rintro e f ⟨o2,n2,c2,bw,n3,bq,rfl,G⟩;have R:Below b.heap.size b f:=G;have bz:b.heap.size≤f.heap.size:=R.size;have z:Below X2.heap.size X2 f:=x.trans (R.mono x.size);have U:=(z.cell (p:=⟨B,0,none⟩) P).trans z0;have V:=(z.cell (p:=⟨B,1,none⟩) P).trans z1;have X:=(z.cell (p:=⟨r.heap.size,0,none⟩) D).trans u0;have Y:=(z.cell (p:=⟨r.heap.size,1,none⟩) D).trans u1;have Z:=(z.cell (p:=⟨r.heap.size,2,none⟩) D).trans u2;(try have c:f.heap[X2.heap.size]? =some (.cells #[.int .i64 0,.slice none 0 0,.slice none 0 0] 29 (0,0)):=(R.block _ (Array.getElem?_eq_some_iff.1 A).1).trans A);(try have aI:=(Array.getElem?_eq_some_iff.1 c).1);(try have aJ:=(Array.getElem?_eq_some_iff.1 d).1);(try have av:f.cell? ⟨X2.heap.size,0,none⟩=some (.int .i64 0):=Q00 c 0 _ rfl);(try have aB:=Q02 c 0);(try have aw:f.cell? ⟨X2.heap.size,1,none⟩=some (.slice none 0 0):=Q00 c 1 _ rfl);(try have aC:=Q02 c 1);(try have ax:f.cell? ⟨X2.heap.size,2,none⟩=some (.slice none 0 0):=Q00 c 2 _ rfl);(try have aD:=Q02 c 2);(try have ay:f.cell? ⟨b.heap.size,0,none⟩=some (.int .i64 0):=Q00 d 0 _ rfl);(try have aE:=Q02 d 0);(try have az:f.cell? ⟨b.heap.size,1,none⟩=some (.slice none 0 0):=Q00 d 1 _ rfl);(try have aF:=Q02 d 1);(try have aA:f.cell? ⟨b.heap.size,2,none⟩=some (.slice none 0 0):=Q00 d 2 _ rfl);(try have aG:=Q02 d 2);clear G)|(go_at_call 95;have E:=al.out o1 c1 ak ae y (b.alloc (.cells #[.int .i64 0,.slice none 0 0,.slice none 0 0] 29)) ((aZ.kept ((Below.refl _ _).alloc (Kaq _) _) (Kaq _)).le (by simp)) ((a0.kept ((Below.refl _ _).alloc (Kaq _) _) (Kaq _)).le (by simp)) aX af;with_reducible refine E.mono ?_;clear E;rintro e f ⟨o2,n2,c2,bw,n3,bq,rfl,G⟩;have R:Below b.heap.size b f:=Below.trans (show Below b.heap.size b (b.alloc (.cells #[.int .i64 0,.slice none 0 0,.slice none 0 0] 29)) from ((Below.refl _ _).alloc (Kaq _) _)) (G.mono (by simp));have bz:b.heap.size≤f.heap.size:=R.size;have z:Below X2.heap.size X2 f:=x.trans (R.mono x.size);have U:=(z.cell (p:=⟨B,0,none⟩) P).trans z0;have V:=(z.cell (p:=⟨B,1,none⟩) P).trans z1;have X:=(z.cell (p:=⟨r.heap.size,0,none⟩) D).trans u0;have Y:=(z.cell (p:=⟨r.heap.size,1,none⟩) D).trans u1;have Z:=(z.cell (p:=⟨r.heap.size,2,none⟩) D).trans u2;(try have c:f.heap[X2.heap.size]? =some (.cells #[.int .i64 0,.slice none 0 0,.slice none 0 0] 29 (0,0)):=(R.block _ (Array.getElem?_eq_some_iff.1 A).1).trans A);have d:f.heap[b.heap.size]? =some (.cells #[.int .i64 0,.slice none 0 0,.slice none 0 0] 29 (0,0)):=(Qgb G);(try have aI:=(Array.getElem?_eq_some_iff.1 c).1);(try have aJ:=(Array.getElem?_eq_some_iff.1 d).1);(try have av:f.cell? ⟨X2.heap.size,0,none⟩=some (.int .i64 0):=Q00 c 0 _ rfl);(try have aB:=Q02 c 0);(try have aw:f.cell? ⟨X2.heap.size,1,none⟩=some (.slice none 0 0):=Q00 c 1 _ rfl);(try have aC:=Q02 c 1);(try have ax:f.cell? ⟨X2.heap.size,2,none⟩=some (.slice none 0 0):=Q00 c 2 _ rfl);(try have aD:=Q02 c 2);(try have ay:f.cell? ⟨b.heap.size,0,none⟩=some (.int .i64 0):=Q00 d 0 _ rfl);(try have aE:=Q02 d 0);(try have az:f.cell? ⟨b.heap.size,1,none⟩=some (.slice none 0 0):=Q00 d 1 _ rfl);(try have aF:=Q02 d 1);(try have aA:f.cell? ⟨b.heap.size,2,none⟩=some (.slice none 0 0):=Q00 d 2 _ rfl);(try have aG:=Q02 d 2);clear G))
    all_goals (go_wp2_with fail;go_meet)
    all_goals first
     |with_reducible exact Qjl z (show _≤X2.heap.size by omega)
     |with_reducible exact Qjl z (show _≤b.heap.size by omega)
     |with_reducible exact Qja z
   case rest=>
    obtain ⟨B9,rfl,rfl,a1⟩:=hcut;have G:=a1.out;have bO:=G.size;have aW:=Q01 ((G.block _ D).trans O.out);have ac:=Q01 (am.out.below G hk);clear G a1 O am aP z0 z1 u0 u1 u2 ad al
    cases t with
    |false=>
     go_wp2;go_roundw
     case rel=> exact ⟨i+1,cs,I,H,by omega,by go_num,ac.out,by omega,N.out⟩
     case measure=> simp [intOf];omega
    |true=>
     obtain ⟨mm,bj⟩:=Option.isSome_iff_exists.1 HT.out;have aV:=Q01 (Qcm N.out a8.out (by rw [HL.out];exact bj));clear bj
     have ab:Hid (wc.heap[B]? =some (.cells #[.int .i64 key,.slice I m H,.int .i64 0] 25 (0,0))):=by unfold Hid;rw [HM.out];exact ac.out.box
     have y1:wc.cell? ⟨B,1,none⟩=some (.slice I m H):=Q00 ab.out 1 _ rfl;have v0:wc.cell? ⟨r.heap.size,0,none⟩=some (.int .i64 a):=Q00 aW.out 0 _ rfl;have v1:wc.cell? ⟨r.heap.size,1,none⟩=some (.int .i64 J):=Q00 aW.out 1 _ rfl;have v2:wc.cell? ⟨r.heap.size,2,none⟩=some (.int .i64 g):=Q00 aW.out 2 _ rfl
     have aU:Hid (Qcs wc (B+1) (.slice I m H) cs):=by unfold Hid;rw [HM.out];exact ac.out.own
     have HA:=Q01 (World.ownsRow.alloc aU.out (.cells #[.int .i64 a,.int .i64 J,.int .i64 g] 77))
     have bs:B < wc.heap.size:=by omega
     go_wp2_with (first|(at_builtin;refine Q08 QdI rfl (.tmp 33) (.tmp 35) rfl (B+1) _ cs rfl HA.out (some ⟨wc.heap.size,0,none⟩) 1 _ [(a,J,g)] 1 rfl rfl (by simp) Q9R (by simp;omega) (by simp;omega) ?_));intro v8 w8 aY au _;obtain ⟨o8,c8,e8,_⟩:=ownL.open (L:=Q4j) aY;subst e8
     have a6:Hid (∀q,q≤B→¬(some q=(Value.slice I m H).ownBlock)):=fun q hq e=> by have:=(aU.out.lt q e.symm).1;omega
     have aq:Below wc.heap.size wc (wc.alloc (.cells #[.int .i64 a,.int .i64 J,.int .i64 g] 77)):=(Below.refl _ _).alloc (Kaq _) _;have aj:=(au.block B (by simp;omega) (a6.out B (Kaq _))).trans ((aq.block B bs).trans ab.out);have bl:=(au.block w.heap.size (by simp;omega) (a6.out _ (by omega))).trans ((aq.block w.heap.size (by omega)).trans ac.out.res);have bd:Below w.heap.size wc w8:=(aq.mono (by omega)).grown au (by simp;omega) (fun q h=> by have:=(aU.out.lt q h).1;omega);have a3:=Q01 (ac.out.dr.below hk bd)
     have p8:w8.cell? ⟨B,1,none⟩=some (.slice I m H):=Q00 aj 1 _ rfl;have f8:w8.frozen? ⟨B,1,none⟩=false:=Q02 aj 1;have bm:=Q01 (show JInv k B w.heap.size (B+1) w (w8.setCell ⟨B,1,none⟩ (.slice o8 (cs++[(a,J,g)]).length c8)) key (cs++[(a,J,g)]) o8 c8 from ⟨Q06 aj 1 _,Q2b bl (by omega),Q1Q aY aj 1 _,a3.out.below hk ((Below.refl _ _).setCell (p:=⟨B,1,none⟩) (by exact Nat.le_of_lt y) _)⟩);clear au aY aj bl bd aq a3 y1 v0 v1 v2;go_wp2;go_roundw
     case rel=> exact ⟨i+1,cs++[(a,J,g)],o8,c8,by omega,by go_num,by have h:=bm.out;rw [List.length_append] at h;exact h,by simp;omega,aV.out⟩
     case measure=> simp [intOf];omega
  ·have e:i=n:=by omega
   subst e
   have hn:i≤10:=by omega
   obtain ⟨m,hm⟩:∃m,m=cs.length:=⟨_,rfl⟩;have HM:=Q01 hm
   have ab:Hid (wr.heap[B]? =some (.cells #[.int .i64 key,.slice I m H,.int .i64 0] 25 (0,0))):=by unfold Hid;rw [hm];exact HJ.out.box
   have z1:wr.cell? ⟨B,1,none⟩=some (.slice I m H):=Q00 ab.out 1 _ rfl
   have bt:m≤i:=by omega
   clear hm;go_wp2_with fail;refine (Q0p k ((m:Int)+1) wr HJ.out.dr.cur (by omega) (by omega)).mono ?_;rintro e w5 ⟨s,rfl,ai,bE,bg,bi⟩;have an:=Q01 (HJ.out.draw bg bi hk (Kaq _) y (Nat.lt_succ_self _))
   have ag:w5.heap[B]? =some (.cells #[.int .i64 key,.slice I m H,.int .i64 0] 25 (0,0)):=by rw [HM.out];exact an.out.box
   have ap:=Q06 ag 2 (.int .i64 s);have F:=Q2b (j:=2) (u:=.int .i64 s) an.out.res (show w.heap.size≠B by omega);have bo:=Q01 (Q1Q (Q1Q (Q1Q (Q1Q (show Qcs w5 (B+1) (.slice I m H) cs by rw [HM.out];exact an.out.own) ag 2 (.int .i64 s)) F 0 (.int .i64 key)) (Q06 F 0 (.int .i64 key)) 1 (.slice I m H)) (Q06 (Q06 F 0 (.int .i64 key)) 1 (.slice I m H)) 2 (.int .i64 s));have y2:w5.cell? ⟨B,2,none⟩=some (.int .i64 0):=Q00 ag 2 _ rfl;have bJ:w5.frozen? ⟨B,2,none⟩=false:=Q02 ag 2;have v0:(w5.setCell ⟨B,2,none⟩ (.int .i64 s)).cell? ⟨B,0,none⟩=some (.int .i64 key):=Q00 ap 0 _ rfl
   have v1:(w5.setCell ⟨B,2,none⟩ (.int .i64 s)).cell? ⟨B,1,none⟩=some (.slice I m H):=Q00 ap 1 _ rfl;have v2:(w5.setCell ⟨B,2,none⟩ (.int .i64 s)).cell? ⟨B,2,none⟩=some (.int .i64 s):=Q00 ap 2 _ rfl;have r0:(w5.setCell ⟨B,2,none⟩ (.int .i64 s)).cell? ⟨w.heap.size,0,none⟩=some (.int .i64 0):=Q00 F 0 _ rfl;have bG:(w5.setCell ⟨B,2,none⟩ (.int .i64 s)).frozen? ⟨w.heap.size,0,none⟩=false:=Q02 F 0;have r1:(w5.setCell ⟨B,2,none⟩ (.int .i64 s)).cell? ⟨w.heap.size,1,none⟩=some (.slice none 0 0):=Q00 F 1 _ rfl
   have bH:(w5.setCell ⟨B,2,none⟩ (.int .i64 s)).frozen? ⟨w.heap.size,1,none⟩=false:=Q02 F 1;have r2:(w5.setCell ⟨B,2,none⟩ (.int .i64 s)).cell? ⟨w.heap.size,2,none⟩=some (.int .i64 0):=Q00 F 2 _ rfl;have bI:(w5.setCell ⟨B,2,none⟩ (.int .i64 s)).frozen? ⟨w.heap.size,2,none⟩=false:=Q02 F 2;have bn:=Q01 (show Q0s key cs s=true by unfold Q0s;simp only [Bool.and_eq_true,decide_eq_true_eq];exact ⟨⟨⟨⟨T.out,by omega⟩,ai⟩,by have:=HM.out;omega⟩,N.out⟩);clear bg bi HJ ab ag ap F z1;go_wp2
   refine bodyPost_ret (v:=jrn key (.slice I m H) s) (by simp [results,Tryz.results133,go_sem,r0,r1,r2]) rfl ⟨_,⟨key,cs,s⟩,rfl,⟨_,rfl,InRow.mono (InRow.of bo.out) (by omega) (Kaq _)⟩,bn.out,show cs.length≤10 by omega,an.out.dr.below hk ?_⟩;exact Q0E ((Below.refl _ _).setCell (p:=⟨B,2,none⟩) (Nat.le_of_lt y) _) (Kaq _) _ _ _
structure JS (k B R C:Nat) (w0 wr:World) (key s:Int) (cs:List Cd) (o:Option Addr) (n c:Nat):Prop where
 len:n=cs.length
 box:wr.heap[B]? =some (.cells #[.int .i64 key,.slice o n c,.int .i64 s] 25 (0,0))
 res:wr.heap[R]? =some (.cells #[.int .i64 0,.slice none 0 0,.int .i64 0] 25 (0,0))
 own:Qcs wr C (.slice o n c) cs
 dr:Dr k w0 wr
theorem JS.draw {k B R C:Nat} {b wr:World} {key s:Int} {cs:List Cd} {o:Option Addr} {n c:Nat} {x:World} (h:JS k B R C b wr key s cs o n c) (i:isCur k x) (a:wr.grownBy x (some k)) (d:B≠k) (g:R≠k) (f:k < C):JS k B R C b x key s cs o n c:=
 ⟨h.len,Q0a a (Array.getElem?_eq_some_iff.1 h.box).1 d h.box,Q0a a (Array.getElem?_eq_some_iff.1 h.res).1 g h.res,Q3C h.own a f,h.dr.step i a⟩
theorem JS.below {k B R C:Nat} {b wr:World} {key s:Int} {cs:List Cd} {o:Option Addr} {n c:Nat} {x:World} (h:JS k B R C b wr key s cs o n c) (a:Below wr.heap.size wr x) (d:k < b.heap.size):JS k B R C b x key s cs o n c:=
 ⟨h.len,(a.block _ (Array.getElem?_eq_some_iff.1 h.box).1).trans h.box,(a.block _ (Array.getElem?_eq_some_iff.1 h.res).1).trans h.res,Q03 h.own a,h.dr.below d (a.mono h.dr.gr.size)⟩
theorem JS.set0 {k B R C:Nat} {a wr:World} {key s:Int} {cs:List Cd} {o:Option Addr} {n c:Nat} (h:JS k B R C a wr key s cs o n c) (f:k < a.heap.size) (b:a.heap.size≤B) (d:R≠B) (y:Int):JS k B R C a (wr.setCell ⟨B,0,none⟩ (.int .i64 y)) y s cs o n c:=
 ⟨h.len,Q06 h.box 0 _,Q2b h.res d,Q1Q h.own h.box 0 _,h.dr.below f ((Below.refl _ _).setCell (p:=⟨B,0,none⟩) b _)⟩
theorem JS.set2 {k B R C:Nat} {a wr:World} {key s:Int} {cs:List Cd} {o:Option Addr} {n c:Nat} (h:JS k B R C a wr key s cs o n c) (f:k < a.heap.size) (b:a.heap.size≤B) (d:R≠B) (y:Int):JS k B R C a (wr.setCell ⟨B,2,none⟩ (.int .i64 y)) key y cs o n c:=
 ⟨h.len,Q06 h.box 2 _,Q2b h.res d,Q1Q h.own h.box 2 _,h.dr.below f ((Below.refl _ _).setCell (p:=⟨B,2,none⟩) b _)⟩
theorem JS.done {k B C:Nat} {a wr:World} {key s:Int} {cs:List Cd} {o:Option Addr} {n c:Nat} (h:JS k B a.heap.size C a wr key s cs o n c) (f:k < a.heap.size) (d:a.heap.size≤C):InJm a.heap.size (setP wr a.heap.size (.int .i64 key) (.slice o n c) (.int .i64 s)).heap.size (setP wr a.heap.size (.int .i64 key) (.slice o n c) (.int .i64 s)) (jrn key (.slice o n c) s) ⟨key,cs,s⟩∧Dr k a (setP wr a.heap.size (.int .i64 key) (.slice o n c) (.int .i64 s)):=by
 have b:=Q06 h.res 0 (.int .i64 key);have i:=Q06 b 1 (.slice o n c);have g:=Q1Q (Q1Q (Q1Q h.own h.res 0 (.int .i64 key)) b 1 (.slice o n c)) i 2 (.int .i64 s);exact ⟨⟨_,rfl,InRow.mono (InRow.of g) d (Kaq _)⟩,h.dr.below f (Q0E (Below.refl _ _) (Kaq _) _ _ _)⟩
theorem JS.push {k B R C:Nat} {d wr:World} {key s:Int} {cs:List Cd} {o:Option Addr} {n c:Nat} {f:World} {a i g:Int} {A:Option Addr} {l m:Nat} {O:Obj} (h:JS k B R C d wr key s cs o n c) (D:k < d.heap.size) (E:d.heap.size≤B) (F:R≠B) (L:d.heap.size≤C) (G:R < C) (H:l=n+1) (I:Qcs f C (.slice A l m) (cs++[(a,i,g)])) (u:(wr.alloc O).grownBy f (Value.slice o n c).ownBlock):
  f.heap[B]? =some (.cells #[.int .i64 key,.slice o n c,.int .i64 s] 25 (0,0))∧JS k B R C d (f.setCell ⟨B,1,none⟩ (.slice A l m)) key s (cs++[(a,i,g)]) A l m:=by
 have j:Below wr.heap.size wr (wr.alloc O):=(Below.refl _ _).alloc (Kaq _) _;have v:=(Array.getElem?_eq_some_iff.1 h.box).1;have w:=(Array.getElem?_eq_some_iff.1 h.res).1;have J:=j.size
 have x:¬(some B=(Value.slice o n c).ownBlock):=fun e=> by
  rcases Q1X h.own h.box (show (77:TypeId)≠25 by decide) with r|r
  ·rw [r] at e;cases e
  ·exact r e.symm
 have y:¬(some R=(Value.slice o n c).ownBlock):=fun e=> by have:=(h.own.lt R e.symm).1;omega
 have b:=(u.block B (by omega) x).trans ((j.block B v).trans h.box);have z:=(u.block R (by omega) y).trans ((j.block R w).trans h.res);have t:Below d.heap.size wr f:=(j.mono h.dr.gr.size).grown u (by have:=h.dr.gr.size;omega) (fun q e=> by have:=(h.own.lt q e).1;omega);exact ⟨b,⟨by simp [H,h.len],Q06 b 1 _,Q2b z F,Q1Q I b 1 _,(h.dr.below D t).below D ((Below.refl _ _).setCell (p:=⟨B,1,none⟩) E _)⟩⟩
theorem Qc2 (k:Nat) (w:World) (hc:isCur k w) (q:k < w.heap.size):
  Calls Tryz.prog 81 #[.pointer (some ⟨k,0,none⟩)] w fun e w'=> ∃v m,e=.returned v∧InJm w.heap.size w'.heap.size w' v m∧m.l.length≤11∧Dr k w w':=by
 obtain ⟨V,N⟩:∃W,w.alloc (.cells #[.int .i64 0,.slice none 0 0,.int .i64 0] 25)=W:=⟨_,rfl⟩;have ah:=alb0v0v1 N;have J:=Q01 (show Dr k w V from ⟨hc.below (ah.mono q),by rw [←N];exact Q0t w _ k⟩);have ae:Hid _:=alx0v0v1 N;have p:=alz0v0v1 N;clear ah hc;go_enter Tryz.func81,Tryz.ntmps81;go_wp2_with fail;refine (Q7E k V J.out.cur (J.out.lt q)).mono ?_;rintro e R ⟨v,⟨key,cs,s⟩,rfl,⟨vl,rfl,C⟩,_,T,z⟩;obtain ⟨o,c,e1,_⟩:=ownL.open (L:=Q4j) C.1;subst e1;dsimp only at C T ⊢;obtain ⟨n,hn⟩:∃n,cs.length=n:=⟨_,rfl⟩;rw [hn] at C T ⊢;have ag:=Q01 C.1
 have ad:=Q01 (J.out.step z.cur z.gr);have af:=Q01 (Q0a z.gr p (by omega) ae.out);have ar:V.heap.size≤R.heap.size:=z.gr.size;have U:=Q01 hn;clear z C ae J hn;have P:Below R.heap.size R (R.alloc (.cells #[.int .i64 key,.slice o n c,.int .i64 s] 25)):=(Below.refl _ _).alloc (Kaq _) _;have M:=Q01 (show JS k R.heap.size w.heap.size V.heap.size w (R.alloc (.cells #[.int .i64 key,.slice o n c,.int .i64 s] 25)) key s cs o n c from ⟨U.out.symm,World.alloc_heap_new R _,(P.block _ (by omega)).trans af.out,Q03 ag.out P,ad.out.below q (P.mono (by omega))⟩)
 clear P af ad ag;go_wp2_with fail;generalize (R.alloc (.cells #[.int .i64 key,.slice o n c,.int .i64 s] 25))=W2 at *;obtain ⟨B,hB⟩:∃B,R.heap.size=B:=⟨_,rfl⟩;simp only [hB] at M ar ⊢
 have D:B≠k:=by omega
 have F:w.heap.size≠k:=by omega
 have aa:w.heap.size≠B:=by omega
 have ac:w.heap.size≤B:=by omega
 have E:k < V.heap.size:=by omega
 clear hB;refine (Q1w k 7 W2 M.out.dr.cur (by decide) (by decide)).mono ?_;rintro e I ⟨au,rfl,ai,ak⟩;have d:=Q01 (M.out.draw ai ak D F E);clear ai ak M
 cases au with
 |false=>
  have z0:I.cell? ⟨B,0,none⟩=some (.int .i64 key):=Q00 d.out.box 0 _ rfl;have z1:I.cell? ⟨B,1,none⟩=some (.slice o n c):=Q00 d.out.box 1 _ rfl;have z2:I.cell? ⟨B,2,none⟩=some (.int .i64 s):=Q00 d.out.box 2 _ rfl;have r0:I.cell? ⟨w.heap.size,0,none⟩=some (.int .i64 0):=Q00 d.out.res 0 _ rfl;have X:I.frozen? ⟨w.heap.size,0,none⟩=false:=Q02 d.out.res 0;have r1:I.cell? ⟨w.heap.size,1,none⟩=some (.slice none 0 0):=Q00 d.out.res 1 _ rfl;have Y:I.frozen? ⟨w.heap.size,1,none⟩=false:=Q02 d.out.res 1
  have r2:I.cell? ⟨w.heap.size,2,none⟩=some (.int .i64 0):=Q00 d.out.res 2 _ rfl;have Z:I.frozen? ⟨w.heap.size,2,none⟩=false:=Q02 d.out.res 2;have r:=Q01 (d.out.done q (Nat.le_of_lt p));clear d;go_wp2;refine bodyPost_ret (v:=jrn key (.slice o n c) s) (by simp [results,Tryz.results81,go_sem,r0,r1,r2]) rfl ⟨_,⟨key,cs,s⟩,rfl,r.out.1,show cs.length≤11 by have:=U.out;omega,r.out.2⟩
 |true=>
  go_wp2_with fail;refine (Q0p k 3 I d.out.dr.cur (by decide) (by decide)).mono ?_;rintro e w4 ⟨x,rfl,ax,ay,aj,al⟩;have f:=Q01 (d.out.draw aj al D F E);clear aj al d
  by_cases e0:x=0
  ·subst e0
   have z1:w4.cell? ⟨B,1,none⟩=some (.slice o n c):=Q00 f.out.box 1 _ rfl;go_wp2_with fail;refine (Q2t k [-1,(n:Int)+1] w4 f.out.dr.cur (f.out.dr.lt q) (by simp) (by simp)).mono ?_;rintro e i ⟨y,_,rfl,u,A⟩;have j:=f.out.draw u A D F E;have b:=j.set2 q ac aa y;have y2:i.cell? ⟨B,2,none⟩=some (.int .i64 s):=Q00 j.box 2 _ rfl;have aq:i.frozen? ⟨B,2,none⟩=false:=Q02 j.box 2;have q0:(i.setCell ⟨B,2,none⟩ (.int .i64 y)).cell? ⟨B,0,none⟩=some (.int .i64 key):=Q00 b.box 0 _ rfl
   have q1:(i.setCell ⟨B,2,none⟩ (.int .i64 y)).cell? ⟨B,1,none⟩=some (.slice o n c):=Q00 b.box 1 _ rfl;have q2:(i.setCell ⟨B,2,none⟩ (.int .i64 y)).cell? ⟨B,2,none⟩=some (.int .i64 y):=Q00 b.box 2 _ rfl;have r0:(i.setCell ⟨B,2,none⟩ (.int .i64 y)).cell? ⟨w.heap.size,0,none⟩=some (.int .i64 0):=Q00 b.res 0 _ rfl;have X:(i.setCell ⟨B,2,none⟩ (.int .i64 y)).frozen? ⟨w.heap.size,0,none⟩=false:=Q02 b.res 0;have r1:(i.setCell ⟨B,2,none⟩ (.int .i64 y)).cell? ⟨w.heap.size,1,none⟩=some (.slice none 0 0):=Q00 b.res 1 _ rfl
   have Y:(i.setCell ⟨B,2,none⟩ (.int .i64 y)).frozen? ⟨w.heap.size,1,none⟩=false:=Q02 b.res 1;have r2:(i.setCell ⟨B,2,none⟩ (.int .i64 y)).cell? ⟨w.heap.size,2,none⟩=some (.int .i64 0):=Q00 b.res 2 _ rfl;have Z:(i.setCell ⟨B,2,none⟩ (.int .i64 y)).frozen? ⟨w.heap.size,2,none⟩=false:=Q02 b.res 2;have r:=Q01 (b.done q (Nat.le_of_lt p));clear u A f j b;go_wp2;refine bodyPost_ret (v:=jrn key (.slice o n c) y) (by simp [results,Tryz.results81,go_sem,r0,r1,r2]) rfl ⟨_,⟨key,cs,y⟩,rfl,r.out.1,show cs.length≤11 by have:=U.out;omega,r.out.2⟩
  by_cases e1:x=1
  ·subst e1
   have z1:w4.cell? ⟨B,1,none⟩=some (.slice o n c):=Q00 f.out.box 1 _ rfl;have ao:Hid (isCur k w4.drew):=f.out.dr.cur.below (Below.drew (Below.refl _ _));have ap:Hid (k < w4.drew.heap.size):=f.out.dr.lt q;go_wp2
   go_region_law (first|(go_simp;go_at_call 72;refine (Q96 k _ ao.out ap.out).mono ?_;rintro e w7 ⟨a,i2,g,rfl,hd⟩;have am:w4.grownBy w7 (some k):=⟨hd.gr.os,hd.gr.tape,hd.gr.output,hd.gr.size,hd.gr.block⟩;have J7:=f.out.draw hd.cur am D F E;have y7:w7.cell? ⟨B,1,none⟩=some (.slice o n c):=Q00 J7.box 1 _ rfl;have av:∀O,(w7.alloc O).cell? ⟨B,1,none⟩=some (.slice o n c):=(fun O=> Q00 (J7.below ((Below.refl _ _).alloc (Kaq _) O) q).box 1 _ rfl);have aw:V.heap.size≤w7.heap.size:=(by have:=(Array.getElem?_eq_some_iff.1 J7.box).1;omega);clear hd am;dsimp only)|(refine Q0i QdI rfl (.tmp 27) (.tmp 30) rfl V.heap.size (.slice o n c) cs rfl (World.ownsRow.alloc J7.own _) (some ⟨w7.heap.size,0,none⟩) 1 _ [(a,i2,g)] 1 rfl rfl (by simp) Q9R (by simp;have:=U.out;omega) (by simp;omega) ?_;intro v8 H ab an _;obtain ⟨G,t,e8,_⟩:=ownL.open (L:=Q4j) ab;rw [List.length_append] at e8;rw [U.out] at e8;subst e8;have R8:=J7.push q ac aa (Nat.le_of_lt p) p rfl ab an;have p8:H.cell? ⟨B,1,none⟩=some (.slice o n c):=Q00 R8.1 1 _ rfl;have f8:H.frozen? ⟨B,1,none⟩=false:=Q02 R8.1 1))
   all_goals (
    have h:=R8.2;have q0:(H.setCell ⟨B,1,none⟩ (.slice G (n+1) t)).cell? ⟨B,0,none⟩=some (.int .i64 key):=Q00 h.box 0 _ rfl;have q1:(H.setCell ⟨B,1,none⟩ (.slice G (n+1) t)).cell? ⟨B,1,none⟩=some (.slice G (n+1) t):=Q00 h.box 1 _ rfl;have q2:(H.setCell ⟨B,1,none⟩ (.slice G (n+1) t)).cell? ⟨B,2,none⟩=some (.int .i64 s):=Q00 h.box 2 _ rfl;have r0:(H.setCell ⟨B,1,none⟩ (.slice G (n+1) t)).cell? ⟨w.heap.size,0,none⟩=some (.int .i64 0):=Q00 h.res 0 _ rfl;have X:(H.setCell ⟨B,1,none⟩ (.slice G (n+1) t)).frozen? ⟨w.heap.size,0,none⟩=false:=Q02 h.res 0
    have r1:(H.setCell ⟨B,1,none⟩ (.slice G (n+1) t)).cell? ⟨w.heap.size,1,none⟩=some (.slice none 0 0):=Q00 h.res 1 _ rfl;have Y:(H.setCell ⟨B,1,none⟩ (.slice G (n+1) t)).frozen? ⟨w.heap.size,1,none⟩=false:=Q02 h.res 1;have r2:(H.setCell ⟨B,1,none⟩ (.slice G (n+1) t)).cell? ⟨w.heap.size,2,none⟩=some (.int .i64 0):=Q00 h.res 2 _ rfl;have Z:(H.setCell ⟨B,1,none⟩ (.slice G (n+1) t)).frozen? ⟨w.heap.size,2,none⟩=false:=Q02 h.res 2;have r:=Q01 (h.done q (Nat.le_of_lt p));clear f h R8 ab an J7 y7 av z1;go_wp2
    refine bodyPost_ret (v:=jrn key (.slice G (n+1) t) s) (by simp [results,Tryz.results81,go_sem,r0,r1,r2]) rfl ⟨_,⟨key,cs++[(a,i2,g)],s⟩,rfl,r.out.1,show (cs++[(a,i2,g)]).length≤11 by rw [List.length_append,U.out];simp;omega,r.out.2⟩)
  ·go_wp2_with fail
   refine (Q2t k [-1,999999,1000000] w4 f.out.dr.cur (f.out.dr.lt q) (by decide) (by decide)).mono ?_;rintro e i ⟨y,_,rfl,u,A⟩;have j:=f.out.draw u A D F E;have b:=j.set0 q ac aa y;have y2:i.cell? ⟨B,0,none⟩=some (.int .i64 key):=Q00 j.box 0 _ rfl;have aq:i.frozen? ⟨B,0,none⟩=false:=Q02 j.box 0;have q0:(i.setCell ⟨B,0,none⟩ (.int .i64 y)).cell? ⟨B,0,none⟩=some (.int .i64 y):=Q00 b.box 0 _ rfl;have q1:(i.setCell ⟨B,0,none⟩ (.int .i64 y)).cell? ⟨B,1,none⟩=some (.slice o n c):=Q00 b.box 1 _ rfl
   have q2:(i.setCell ⟨B,0,none⟩ (.int .i64 y)).cell? ⟨B,2,none⟩=some (.int .i64 s):=Q00 b.box 2 _ rfl;have r0:(i.setCell ⟨B,0,none⟩ (.int .i64 y)).cell? ⟨w.heap.size,0,none⟩=some (.int .i64 0):=Q00 b.res 0 _ rfl;have X:(i.setCell ⟨B,0,none⟩ (.int .i64 y)).frozen? ⟨w.heap.size,0,none⟩=false:=Q02 b.res 0;have r1:(i.setCell ⟨B,0,none⟩ (.int .i64 y)).cell? ⟨w.heap.size,1,none⟩=some (.slice none 0 0):=Q00 b.res 1 _ rfl;have Y:(i.setCell ⟨B,0,none⟩ (.int .i64 y)).frozen? ⟨w.heap.size,1,none⟩=false:=Q02 b.res 1
   have r2:(i.setCell ⟨B,0,none⟩ (.int .i64 y)).cell? ⟨w.heap.size,2,none⟩=some (.int .i64 0):=Q00 b.res 2 _ rfl;have Z:(i.setCell ⟨B,0,none⟩ (.int .i64 y)).frozen? ⟨w.heap.size,2,none⟩=false:=Q02 b.res 2;have r:=Q01 (b.done q (Nat.le_of_lt p));clear u A f j b;go_wp2;refine bodyPost_ret (v:=jrn y (.slice o n c) s) (by simp [results,Tryz.results81,go_sem,r0,r1,r2]) rfl ⟨_,⟨y,cs,s⟩,rfl,r.out.1,show cs.length≤11 by have:=U.out;omega,r.out.2⟩
def Q5C (lll:List (List (List Int))):Prop:=1≤lll.length∧lll.length≤3∧∀i,i < lll.length→(lll.getD i []).length=8∧∀j,((lll.getD i []).getD j []).length≤2
theorem Qev (cs:List Cd):∀n,1≤(Q1u cs n).length
 |0=> by simp [Q1u]
 |n+1=> by rw [Q1u];simp
theorem Qc0 (key:Int) (R:List (List Bk)) (b:1≤R.length) (c:R.length≤3):Q5C (Q1e key R):=by
 refine ⟨by simpa [Q1e] using b,by simpa [Q1e] using c,fun i hi=> ?_⟩
 have a:i < R.length:=by simpa [Q1e] using hi
 rw [Q30 key R i a];exact ⟨Q1O _ _,fun j=> Q71 _ _ j⟩
theorem GTabs.draw {w c:World} {base k:Nat} {hs:List Hd} {R:List (List (List Int))} (h:GTabs w base hs R) (b:w.grownBy c (some k)) (g:k < base):GTabs c base hs R:=
 ⟨h.1,fun i hi=> by
  obtain ⟨m,d,a,e,f,h2⟩:=h.2 i hi;refine ⟨m,d,a,e,Q3C (L:=Q0H) f b g,h2.grown b (fun q l=> ?_)⟩
  cases hob:(hv a q).ownBlock with
  |none=> exact .inl rfl
  |some j=> right;have:=((h2.row q l).lt j hob).1;intro e;simp at e;omega⟩
theorem QdL (k:Nat) (w:World) (hc:isCur k w) (I:k < w.heap.size):
  Calls Tryz.prog 134 #[.pointer (some ⟨k,0,none⟩)] w fun e w'=> ∃key l b hs i c2 m j,e=.returned (plv key (.slice i l.length c2) (.slice m b.length j))∧l.length≤100∧Q5C b∧Q1t w' w.heap.size (.slice i l.length c2) l∧ownL Q0H 51 w' w.heap.size (.slice m b.length j) hs∧GTabs w' w.heap.size hs b∧Dr k w w':=by
 obtain ⟨W0,u⟩:∃W,w.alloc (.cells #[.int .i64 0,.slice none 0 0,.slice none 0 0] 29)=W:=⟨_,rfl⟩;have Z:=alb0v0v1 u;have q:=Q01 (show Dr k w W0 from ⟨hc.below (Z.mono I),by rw [←u];exact Q0t w _ k⟩);have T:Hid _:=alx0v0v1 u;have ae:=alz0v0v1 u;clear Z hc;go_enter Tryz.func134,Tryz.ntmps134;go_wp2_with fail;refine (Q7E k W0 q.out.cur (q.out.lt I)).mono ?_;rintro e w1 ⟨v,⟨key,cs,s⟩,rfl,⟨vl,rfl,z⟩,hj,B,h⟩;obtain ⟨o,c,e1,_⟩:=ownL.open (L:=Q4j) z.1;subst e1;dsimp only at z B hj ⊢;obtain ⟨⟨ab,hl,_,_⟩,D⟩:=And.intro (Q0X hj) (Q1W hj)
 have t:=Q01 (Q2Z hj cs.length (by omega));obtain ⟨W2,x⟩:∃W,w1.alloc (.cells #[.int .i64 key,.slice o cs.length c,.int .i64 s] 25)=W:=⟨_,rfl⟩;have g:=alb0v0v1 x;have aj:W0.heap.size≤w1.heap.size:=h.gr.size;have ak:=g.size;have J:=Q01 ((q.out.step h.cur h.gr).below I (g.mono (by omega)));have U:=Q01 ((g.block _ (by omega)).trans (Q0a h.gr ae (by omega) T.out));have f:=Q01 (Q6t key o c cs W2 (ownL.rds (L:=Q4j) (Q03 z.1 g)) ab hl D)
 have j0:W2.cell? ⟨w1.heap.size,0,none⟩=some (.int .i64 key):=by rw [←x];simp [go_sem]
 have j1:W2.cell? ⟨w1.heap.size,1,none⟩=some (.slice o cs.length c):=by rw [←x];simp [go_sem]
 clear h z T q g D hj;obtain ⟨n,hn⟩:∃n,cs.length=n:=⟨_,rfl⟩;rw [hn] at x j1 f ⊢;have HN:=Q01 hn;obtain ⟨d,A⟩:∃s,Q0k cs cs.length=s:=⟨_,rfl⟩;rw [hn] at A hl B;rw [A] at f;rw [hn,A] at t;obtain ⟨rg,H⟩:∃s,Q1u cs n=s:=⟨_,rfl⟩;rw [H] at f;have G:=Q01 (show 1≤rg.length∧rg.length≤3 by rw [←H];exact ⟨Qev cs n,Q7P cs n⟩);clear A H hn;go_wp2_with fail;refine (f.out).mono ?_;rintro e w3 ⟨oB,cB,oR,cR,hs,rfl,ac,ad,pt,al,y⟩;have F:=Q01 ac;have P:=Q01 ad;have N:=Q01 (QhU pt);have M:=Q01 (J.out.below I (y.mono (by omega)))
 have V:=Q01 ((y.block _ (by omega)).trans U.out);have af:=y.size;clear ac ad pt y f U J;have E:=Q01 (Q7N key d rg (by have:=t.out.2;omega) G.out.2);have Y:=Q01 (Qc0 key rg G.out.1 G.out.2);obtain ⟨b,C⟩:∃s,Q1e key rg=s:=⟨_,rfl⟩;rw [C] at N E Y;clear C;have X:=Q01 (ownL.rds (L:=Q1d) F.out);have aa:=(fun e=> (InRow.cap (InRow.of F.out)) d.length cB (by rw [e]):oB=none→cB=0)
 have R:=Q01 (Qc9 key oB cB d oR cR b hs.length N.out.1 w3 X.out aa (by have:=t.out.2;omega) (RcR.mon.go (N.out.rc P.out) (Kcq _) (Kaq _)) (by omega) E.out.2.2.2.1 E.out.2.2.2.2);have O:=Q01 N.out.1;clear X aa;go_wp2_with fail;refine (R.out).mono ?_;rintro e p ⟨i,c2,m,j,hq,rfl,h1,h2,h3,y⟩;have a:=(y.block _ (by omega)).trans V.out;have am:=y.size;have r0:p.cell? ⟨w.heap.size,0,none⟩=some (.int .i64 0):=Q00 a 0 _ rfl;have ag:p.frozen? ⟨w.heap.size,0,none⟩=false:=Q02 a 0;have r1:p.cell? ⟨w.heap.size,1,none⟩=some (.slice none 0 0):=Q00 a 1 _ rfl
 have ah:p.frozen? ⟨w.heap.size,1,none⟩=false:=Q02 a 1;have r2:p.cell? ⟨w.heap.size,2,none⟩=some (.slice none 0 0):=Q00 a 2 _ rfl;have ai:p.frozen? ⟨w.heap.size,2,none⟩=false:=Q02 a 2
 have r:Hid (Q1t (setP p w.heap.size (.int .i64 key) (.slice i d.length c2) (.slice m hs.length j)) w.heap.size (.slice i d.length c2) d∧ownL Q0H 51 (setP p w.heap.size (.int .i64 key) (.slice i d.length c2) (.slice m hs.length j)) w.heap.size (.slice m hs.length j) hq∧GTabs (setP p w.heap.size (.int .i64 key) (.slice i d.length c2) (.slice m hs.length j)) w.heap.size hq b∧Dr k w (setP p w.heap.size (.int .i64 key) (.slice i d.length c2) (.slice m hs.length j))):=by
  have g1:=Q06 a 0 (.int .i64 key);have g2:=Q06 g1 1 (.slice i d.length c2);exact ⟨Q04 (Q0r (Q0r (Q0r h1 a Q87 0 _) g1 Q87 1 _) g2 Q87 2 _) (by omega),Q04 (Q0r (Q0r (Q0r h2 a QaL 0 _) g1 QaL 1 _) g2 QaL 2 _) (by omega),GTabs.mono (((h3.putB a 0 _).putB g1 1 _).putB g2 2 _) (by omega),(M.out.below I (y.mono (by omega))).below I (Q0E (Below.refl _ _) (Kaq _) _ _ _)⟩
 clear h1 h2 h3 y a R F P N M V;go_wp2;refine bodyPost_ret (v:=plv key (.slice i d.length c2) (.slice m hs.length j)) (by simp [results,Tryz.results134,go_sem,r0,r1,r2]) rfl ⟨key,d,b,hq,i,c2,m,j,by rw [←O.out],t.out.2,Y.out,r.out.1,by rw [←O.out];exact r.out.2.1,r.out.2.2.1,r.out.2.2.2⟩
theorem QdU (a:List Int) (x y:Int):y∈Q7X a x↔y∈a∨y=x:=by
 unfold Q7X
 by_cases h:a.contains x=true
 ·rw [if_pos h]
  have b:x∈a:=by simpa using h
  exact ⟨fun h=> .inl h,fun h=> h.elim id (fun e=> by rw [e];exact b)⟩
 ·rw [if_neg h];simp
theorem Qdo (l:List Int):∀(b:List Int) (y:Int),y∈Q36 b l↔y∈b∨y∈l:=by
 induction l with
 |nil=> intro b y;simp [Q36]
 |cons a l ih=>
  intro b y
  show y∈Q36 (Q7X b a) l↔_
  rw [ih,QdU];simp [or_assoc]
theorem QaF (b:Nat) (R:List (List (List Int))):∀(c:List Int) (y:Int),y∈R.foldl (fun c t=> Q36 c (t.getD b [])) c↔y∈c∨∃t∈R,y∈t.getD b []:=by
 induction R with
 |nil=> intro c y;simp
 |cons a R ih=>
  intro c y;rw [List.foldl_cons,ih,Qdo]
  constructor
  ·rintro ((h|h)|⟨t,d,h2⟩)
   ·exact .inl h
   ·exact .inr ⟨a,by simp,h⟩
   ·exact .inr ⟨t,by simp [d],h2⟩
  ·rintro (h|⟨t,d,h2⟩)
   ·exact .inl (.inl h)
   ·rcases List.mem_cons.1 d with e|d
    ·subst e;exact .inl (.inr h2)
    ·exact .inr ⟨t,d,h2⟩
theorem QbL {c:List Int} (x:Int) (h:c.Nodup):(Q7X c x).Nodup:=by
 unfold Q7X
 by_cases hc:c.contains x=true
 ·rw [if_pos hc];exact h
 ·rw [if_neg hc]
  have g:x∉c:=by simpa using hc
  rw [List.nodup_append];exact ⟨h,by simp,fun a f b d e=> by simp at d;subst d;subst e;exact g f⟩
theorem QaD (l:List Int):∀{out:List Int},out.Nodup→(Q36 out l).Nodup:=by
 induction l with
 |nil=> intro out h;exact h
 |cons a l ih=> intro out h;exact ih (QbL a h)
theorem Q8f (b:Nat) (R:List (List (List Int))):∀{c:List Int},c.Nodup→(R.foldl (fun c t=> Q36 c (t.getD b [])) c).Nodup:=by
 induction R with
 |nil=> intro c h;exact h
 |cons a R ih=> intro c h;exact ih (QaD _ h)
theorem Q95:∀(n:Nat) (l:List Int),l.Nodup→(∀x∈l,0≤x∧x < (n:Int))→l.length≤n
 |0,l,_,h=> by
  cases l with
  |nil=> simp
  |cons a l=> have:=h a (by simp);omega
 |n+1,l,hd,h=> by
  by_cases hn:((n:Int))∈l
  ·have f:=Q95 n (l.erase (n:Int)) (hd.erase _) (fun x c=> by
    have b:=(List.Nodup.mem_erase_iff hd).1 c;have:=h x b.2;have d:=b.1
    omega)
   rw [List.length_erase_of_mem hn] at f;omega
  ·have f:=Q95 n l hd (fun x c=> by
    have:=h x c
    have d:x≠(n:Int):=fun e=> hn (e ▸ c)
    omega)
   omega
theorem Qhb {l:List Int} (h:Q0T l=true):∀x∈l,0≤x∧x < 6:=by
 intro x c;obtain ⟨j,a,rfl⟩:=List.getElem_of_mem c
 cases hid:idB (l[j]) with
 |true=> unfold idB at hid;simp at hid;omega
 |false=>
  have b:=Qdx (l:=l) a (by rw [List.getD_eq_getElem?_getD,List.getElem?_eq_getElem a];exact hid);rw [b] at h
  cases h
theorem RiV.grow {α:Type} {L:Lay α} {a b:Nat} {w d:World} {v:Value} {l:List α} {r:Option Nat} (h:RiV L a b w v l) (c:w.grownBy d r) (f:∀g,r=some g→g < a∨b≤g):RiV L a b d v l:=by
 cases r with
 |none=> exact h.step (Stp.grown (lo:=0) (hi:=0) c (fun b e=> by cases e)) (.inl (Kcq _))
 |some g=> exact h.step (Stp.grown (lo:=g) (hi:=g+1) c (fun b e=> by injection e with e;omega)) (by have:=f g rfl;omega)
theorem QgB (f:Pt) (b:Nat) (h:b < 8):(ptA f)[b * 3]? =some (.bool (f b).1)∧(ptA f)[b * 3+1]? =some (.int .i64 (f b).2.1)∧(ptA f)[b * 3+2]? =some (.int .i64 (f b).2.2):=by
 have a:∀j,j < 3→(ptA f)[b * 3+j]? =(Qgw.cs (((List.range 8).map f).getD b Qgw.d))[j]? :=fun j c=> by
  have:=Q4R Qgw ((List.range 8).map f) b j (by simpa using h) c;rw [show Qgw.k=3 from rfl] at this;unfold ptA ptL;rw [List.getElem?_toArray];exact this
 have e:((List.range 8).map f).getD b Qgw.d=f b:=by simp [h]
 rw [e] at a;exact ⟨a 0 (by decide),a 1 (by decide),a 2 (by decide)⟩
theorem QhR (R:List (List (List Int))) (i:Nat) (h:i < R.length):(R.map Q37).getD i ptZ=Q37 (R.getD i []):=by simp [h]
theorem Q60 (v:Value) (m:Pm) (q:Int) (w:World) (hR:Q86 w.heap.size w v m) (hf:Q3q m):
  Calls Tryz.prog 92 #[v,.int .i64 q] w fun e w'=> ∃v',e=.returned v'∧Qb2 w' w.heap.size v' (Qed m q)∧Below w.heap.size w w':=by
 have s:=Q01 (show Qed m q=if (Q27 m && decide (0≤q) && decide (q < 8))=true then Q3o m.ring q.toNat else [] from rfl);have am:=Q01 (fun h:Q27 m=true=> Q1B h);obtain ⟨vb,vr,rfl,aC,rr⟩:=hR;obtain ⟨o,c,rfl,r⟩:=aC.open;obtain ⟨oR,cR,rfl⟩:=RiR.len rr;obtain ⟨key,l,a⟩:=m;dsimp only at *;clear aC;obtain ⟨W0,af⟩:∃W,(w.alloc (.cells #[.int .i64 key,.slice o l.length c,.slice oR a.length cR] 29))=W:=⟨_,rfl⟩;have B:=alb0v0v1 af;have X:=Q01 B;clear B;have zz:=alz0v0v1 af;obtain ⟨z0,z1,z2⟩:=alc3v0v1 af
 have au:=Q01 (Q74 key o c l oR cR a a.length rfl W0 ((r.kept X.out (Kaq _)).le X.out.size) (RiR.mon.go (RiR.stp.go rr (Stp.of (lo:=0) (hi:=0) X.out) (.inl (Kcq _))) (Kaq _) X.out.size) hf);have u:=Q01 (fun W=> Q2z q W);clear r rr;go_enter Tryz.func92,Tryz.ntmps92;go_wp2_with fail;refine au.out.mono ?_;rintro e v1 ⟨vP,rfl,h1,h2,hb⟩;have p:=Q01 (X.out.trans (hb.mono X.out.size));clear hb au X z0 z1 z2 zz
 cases hp:Q27 ⟨key,l,a⟩ with
 |false=>
  rw [hp] at s;have e2:=h2 hp;subst e2;clear h1 h2;go_wp2;go_ret;exact ⟨_,rfl,by rw [s.out];exact World.ownsRow_nil _ _ _ _,p.out.alloc p.out.size _⟩
 |true=>
  rw [hp] at s;obtain ⟨o2,c2,e2,U⟩:=h1 hp;have HF:=Q01 (am.out hp);subst e2;have aK:=Q01 (ownL.rds (L:=Q21) U);clear h1 h2 am U hp
  by_cases h0:q < 0
  ·have T:(decide (0≤q) && decide (q < 8))=false:=by simp;omega
   rw [T] at u;clear T;go_wp2_with (first|(go_at_call 143;refine (u.out _).mono ?_;rintro e w1 ⟨rfl,rfl⟩));go_ret;exact ⟨_,rfl,by rw [s.out,if_neg (by simp;omega)];exact World.ownsRow_nil _ _ _ _,p.out.alloc p.out.size _⟩
  by_cases h8:8≤q
  ·have T:(decide (0≤q) && decide (q < 8))=false:=by simp;omega
   rw [T] at u;clear T;go_wp2_with (first|(go_at_call 143;refine (u.out _).mono ?_;rintro e w1 ⟨rfl,rfl⟩));go_ret;exact ⟨_,rfl,by rw [s.out,if_neg (by simp;omega)];exact World.ownsRow_nil _ _ _ _,p.out.alloc p.out.size _⟩
  obtain ⟨b,rfl⟩:∃b:Nat,q=(b:Int):=⟨q.toNat,by omega⟩
  have aw:b < 8:=by omega
  have aR:(b:Int) < 8:=by omega
  have T:(decide (0≤(b:Int)) && decide ((b:Int) < 8))=true:=by simp;omega
  rw [T] at u;have al:=Q01 (show Qed ⟨key,l,a⟩ (b:Int)=Q3o a b by rw [s.out,if_pos (by simp;omega)];simp);clear T s h0 h8;obtain ⟨n,hn⟩:∃n,a.length=n:=⟨_,rfl⟩;rw [hn];have aq:=Q01 hn
  have aY:n≤3:=by rw [←hn];exact HF.out.2.2.2.1
  clear hn;obtain ⟨P,ag⟩:∃W,v1.alloc (.cells #[.int .i64 key,.slice o l.length c,.slice o2 n c2] 127)=W:=⟨_,rfl⟩;have ai:=alb0v0v1 ag;have zz:=alz0v0v1 ag
  have z2:P.cell? ⟨v1.heap.size,2,none⟩=some (.slice o2 n c2):=by rw [←ag];simp [go_sem]
  have Y:=Q01 (p.out.trans (ai.mono p.out.size));have HV:=Q01 ai;clear ai;go_wp2_with (first|(go_at_call 143;refine (u.out _).mono ?_;rintro e w1 ⟨rfl,rfl⟩))
  go_loopw [7,27] (fun ov iv wr=> ∃i:Nat,i≤n∧iv=.int .i64 (i:Int)∧Hid (Qb2 wr P.heap.size ov (Q3o (a.take i) b))∧(Q3o (a.take i) b).length≤2 * i∧Hid (Below P.heap.size P wr))
   (fun _ iv _=> n - (intOf iv).toNat)
  case atStart=> exact ⟨0,Kcq _,rfl,World.ownsRow_nil _ _ _ _,by simp [Q3o],Below.refl _ _⟩
  case round=>
   rename World=> wr
   rename_i ov _
   obtain ⟨i,aW,rfl,HO,hL,A⟩:=hrel
   by_cases hlt:i < n
   ·have aT:(i:Int) < (n:Int):=by omega
    have J:i < a.length:=by rw [aq.out];exact hlt
    have av:=Q01 (aK.out.kept (HV.out.trans (A.out.mono HV.out.size)) (Kaq _))
    rcases av.out with hh|⟨b1,off,rfl,aV,V⟩
    ·have:(a.map Q37).length=0:=by rw [hh];rfl
     rw [List.length_map] at this;omega
    have D:=Q01 (RdL.range V i (by rw [List.length_map];exact J));have ac:=Q01 (QdH a b i J);have t:=(Q4S (HF.out.2.2.2.2 i J)).2 b aw;clear V av;rw [QhR a i J] at D;obtain ⟨f,aj⟩:∃f,Q37 (a.getD i [])=f:=⟨_,rfl⟩;rw [aj] at D;have an:=Q01 (show Q32 (f b)=(a.getD i []).getD b [] by rw [←aj];exact Q4G t);have aD:=Q9t t;clear aj t;obtain ⟨row,aB⟩:∃row,(a.getD i []).getD b []=row:=⟨_,rfl⟩;rw [aB] at an aD ac;clear aB;obtain ⟨F,ax⟩:∃q,Q3o (a.take i) b=q:=⟨_,rfl⟩;rw [ax] at HO hL ac;clear ax
    obtain ⟨R,ah⟩:∃W,wr.alloc (.cells (ptA f) 188)=W:=⟨_,rfl⟩;have G:=alb0v0v1 ah
    have O:R.heap[wr.heap.size]? =some (.cells (ptA f) 188 (0,0)):=by rw [←ah];exact World.alloc_heap_new wr _
    have N:=QgB f b aw;have y0:R.cell? ⟨wr.heap.size,b * 3,none⟩=some (.bool (f b).1):=Q00 O _ _ N.1;have y1:R.cell? ⟨wr.heap.size,b * 3+1,none⟩=some (.int .i64 (f b).2.1):=Q00 O _ _ N.2.1;have y2:R.cell? ⟨wr.heap.size,b * 3+2,none⟩=some (.int .i64 (f b).2.2):=Q00 O _ _ N.2.2;have ao:=Q01 (QcA (f b) R);have aZ:=G.size;have Z:=Q01 (A.out.trans (G.mono A.out.size));have ap:=Q01 (fun g e=> (HO.out.lt g e).2);have j:=Q01 (Q03 HO.out G);clear G O N HO A
    go_wp2_with (first|(refine wpList_load_mid rfl 188 (.tmp 29) rfl b1 (off+i * 24) rfl (ptL f) _ D.out ptU rfl ptI ?_)|(refine Q0R rfl (.tmp 9) (.tmp 30) rfl wr.heap.size f ptZ rfl rfl (World.alloc_heap_new wr _) ?_;rw [World.setRow_alloc_new,ah])|fail);refine ao.out.mono ?_;rintro e v3 ⟨o4,c4,rfl,aF,H⟩;have E:=Q01 (InRow.ri (InRow.of aF));rw [an.out] at E ⊢;have a0:=H.size;have ar:=Q01 (Q03 j.out H);have ak:=Q01 (Z.out.trans (H.mono Z.out.size));clear aF H j Z ao y0 y1 y2;obtain ⟨m,hm⟩:∃r,row.length=r:=⟨_,rfl⟩;rw [hm] at aD E ⊢;have HM:=Q01 hm;clear hm
    go_wp2
    go_loopw [7,36] (fun ov kv wq=> ∃k:Nat,k≤m∧kv=.int .i64 (k:Int)∧Hid (Qb2 wq P.heap.size ov (Q36 F (row.take k)))∧(Q36 F (row.take k)).length≤2 * i+k∧Hid (Below P.heap.size P wq)∧Hid (RiV Q2x R.heap.size v3.heap.size wq (.slice o4 m c4) row)∧v3.heap.size≤wq.heap.size∧Hid (∀g,ov.ownBlock=some g→g < R.heap.size∨v3.heap.size≤g))
     (fun _ kv _=> m - (intOf kv).toNat)
    case atStart=> exact ⟨0,Kcq _,rfl,ar.out,by simpa [Q36] using hL,ak.out,E.out,Kaq _,fun g e=> .inl (by have:=ap.out g e;omega)⟩
    case round=>
     rename World=> wq
     rename_i a2 _
     obtain ⟨k,aX,rfl,j,ae,z,ab,aP,aa⟩:=hrel;clear ar ak E D ap
     by_cases hlk:k < m
     ·have aS:(k:Int) < (m:Int):=by omega
      have M:k < row.length:=by rw [HM.out];exact hlk
      obtain ⟨o5,c5,e6,aO⟩:=RiV.open ab.out;injection e6 with e7 e8 e9;subst e7
      rcases aO with hh|⟨b3,aE,rfl,aU,C⟩
      ·rw [hh] at M;exact absurd M (Nat.not_lt_zero _)
      have aN:wq.cell? ⟨b3,aE+k,none⟩=some (.int .i64 (row.getD k 0)):=RdL.int C k M;have d:=Q01 (Qbp F row k M);clear C e8 e9;obtain ⟨y,hy⟩:∃y,row.getD k 0=y:=⟨_,rfl⟩;rw [hy] at aN d;clear hy;obtain ⟨ad,ay⟩:∃q,Q36 F (row.take k)=q:=⟨_,rfl⟩;rw [ay] at j ae d;clear ay;obtain ⟨oo,co,e5,aA⟩:=ownL.open (L:=Q2x) j.out;subst e5;have HH:=Q01 (Qb5 oo co ad y wq aA (by omega));clear aA;go_wp2_with fail;refine HH.out.mono ?_;rintro e w4 ⟨rfl,rfl⟩;clear HH
      cases hh:ad.contains y with
      |true=>
       have HY:=Q01 (Qf0 hh);go_wp2;go_roundw
       case rel=> exact ⟨k+1,by omega,by go_num,by rw [d.out,HY.out];exact j.out,by rw [d.out,HY.out];omega,z.out,ab.out,aP,aa.out⟩
       case measure=> simp [intOf];omega
      |false=>
       have HY:=Q01 (QgS hh);have a1:=z.out.size;have HA:=Q01 (World.ownsRow.alloc j.out (.cells #[.int .i64 y] 3));have aM:=Q01 (ab.out.step (Stp.of (lo:=0) (hi:=0) ((Below.refl w4.heap.size w4).alloc (Kaq _) (.cells #[.int .i64 y] 3))) (.inl (Kcq _)));go_wp2_with (first|(at_builtin;refine Q08 QiG rfl (.tmp 44) (.tmp 46) rfl P.heap.size _ ad rfl HA.out (some ⟨w4.heap.size,0,none⟩) 1 _ [y] 1 rfl rfl (by simp) Qhx (by simp;omega) (by simp;omega) ?_));intro v5 w5 az I x;have aG:=Q01 ((z.out.alloc z.out.size _).grown I (by simp;omega) (fun k h=> (HA.out.lt k h).1))
       have aJ:=Q01 az;have aL:=Q01 (aM.out.grow I aa.out)
       have aQ:v3.heap.size≤w5.heap.size:=by have:=I.size;simp at this;omega
       have aI:Hid (∀g,v5.ownBlock=some g→g < R.heap.size∨v3.heap.size≤g):=fun g e=> by
        rcases x with x|x
        ·rw [x] at e;exact aa.out g e
        ·rw [x] at e;have:=Option.some.inj e;omega
       clear I az x;go_wp2;go_roundw
       case rel=> exact ⟨k+1,by omega,by go_num,by rw [d.out,HY.out];exact aJ.out,by rw [d.out,HY.out,List.length_append];simp;omega,aG.out,aL.out,aQ,aI.out⟩
       case measure=> simp [intOf];omega
     ·have e:k=m:=by omega
      subst e;rw [←HM.out,List.take_length,←ac.out] at j ae;go_wp2;go_roundw
      case rel=> exact ⟨i+1,by omega,by go_num,j.out,by rw [HM.out] at ae;omega,z.out⟩
      case measure=> simp [intOf];omega
   ·have e:i=n:=by omega
    subst e;rw [←aq.out,List.take_length] at HO;have aH:=Q01 (Y.out.trans (A.out.mono Y.out.size));go_wp2;go_ret;exact ⟨_,rfl,by rw [al.out];exact Q04 HO.out Y.out.size,aH.out⟩
end Go.Proofs.YtpneolgdghbinaaGreat
