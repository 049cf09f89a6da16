/- Several texts in one: SPe, SPf, SPok, SPdo, SPdo2, CutP, NoteMath, SCan, SDr4b, SDr4c, SDrP, CandMath, SCan2. -/
import Derived.Laws.StructEq
import Derived.Test.YtpneolgdghbinaaGreatQSends28
namespace Go.Proofs.YtpneolgdghbinaaGreat
open Go.ChangeShapes Go.WideShapes Go.ChangeAt Go.RowKit Go.Joins
set_option linter.unusedVariables false
set_option linter.unusedSimpArgs false
set_option maxRecDepth 100000
set_option maxHeartbeats 40000000
def Q9I (f g:Pt):Bool:=(List.range 8).all (fun i=> f i==g i)
theorem Qib:Tryz.prog.underlying 184=some (.array 2 3):=by kernel_rfl
theorem QgU:Tryz.prog.cellsOf 3=1:=by kernel_rfl
theorem QhJ:(Tryz.prog.info? 186).isSome=true:=by kernel_rfl
theorem QgH:Tryz.prog.cellsOf 186=3:=by kernel_rfl
theorem Qb6 (w:World) (a b:Int):(part 3 #[.int .i64 a,.int .i64 b] 0).run Tryz.prog w=.ok (.int .i64 a) w:=run_part_plain w (by kernel_rfl) rfl
theorem QaX (w:World) (a b:Int):(part 3 #[.int .i64 a,.int .i64 b] 1).run Tryz.prog w=.ok (.int .i64 b) w:=run_part_plain w (by kernel_rfl) rfl
theorem QfI (w:World) (s:Bool) (a b:Int):(part 4 #[.bool s,.int .i64 a,.int .i64 b] 0).run Tryz.prog w=.ok (.bool s) w:=run_part_plain w (by kernel_rfl) rfl
theorem Qgd (d:Nat) (a b a' b':Int) (w:World):(Op.equalIn (d+1+1) 184 (.agg #[.int .i64 a,.int .i64 b]) (.agg #[.int .i64 a',.int .i64 b'])).run Tryz.prog w=.ok (a==a' && b==b') w:=by
 obtain ⟨i,hi⟩:∃i,Tryz.prog.info? 3=some i:=by
  cases h:Tryz.prog.info? 3 with
  |none=> have:=QaN;rw [h] at this;cases this
  |some i=> exact ⟨i,rfl⟩
 have hu:=Tryz.underlying3
 rw [run_equalIn_array w (d+1) _ _ Qib hi,QgU,show List.range 2=[0,1] from rfl]
 simp only [Op.eqItems,Nat.zero_mul,Nat.one_mul,Nat.mul_one,Sem.run_bind,Qb6,QaX,Result.andThen_ok,run_equalIn_int w d 3 .i64 .i64 _ _ hu]
 by_cases h1:a=a' <;> by_cases h2:b=b' <;> simp [h1,h2,Qb6,QaX,Sem.run_bind,run_equalIn_int w d 3 .i64 .i64 _ _ hu]
theorem QcW (w:World) (s:Bool) (a b:Int):(part 184 #[.bool s,.int .i64 a,.int .i64 b] 1).run Tryz.prog w=.ok (.agg #[.int .i64 a,.int .i64 b]) w:=by
 have h1:(isAgg 184).run Tryz.prog w=.ok true w:=by simp [go_sem]
 have h2:(sizeOf 184).run Tryz.prog w=.ok 2 w:=by
  have hI:(Tryz.prog.info? 184).map (·.size)=some 2:=by kernel_rfl
  cases hq:Tryz.prog.info? 184 with
  |none=> simp [hq] at hI
  |some i=> simp [hq] at hI;simp [sizeOf,typeInfo,hq,hI]
 simp [part,Sem.run_bind,h1,h2]
theorem QhV (d:Nat) (p q:Ip) (w:World):(Op.equalIn (d+1+1+1) 186 (ipv p) (ipv q)).run Tryz.prog w=.ok (p==q) w:=by
 obtain ⟨s,a,b⟩:=p;obtain ⟨s',a',b'⟩:=q
 have hS:Tryz.prog.underlying 186=some (.struct (Tryz.prog.fieldsOf 186)):=by kernel_rfl
 have hF:(Tryz.prog.fieldsOf 186).toList.map (fun f=> (f.name,f.type,f.offset))=[("some",4,0),("ids",184,1)]:=by kernel_rfl
 rw [run_equalIn_struct w (d+1+1) 186 _ _ hS (by kernel_rfl)]
 generalize (Tryz.prog.fieldsOf 186).toList=fs at hF ⊢
 match fs,hF with
 |[],hF=> simp at hF
 |[_],hF=> simp at hF
 |_::_::_::_,hF=> simp at hF
 |[f1,f2],hF=>
  simp only [List.map_cons,List.map_nil,List.cons.injEq,Prod.mk.injEq,and_true] at hF
  obtain ⟨⟨n1,t1,o1⟩,n2,t2,o2⟩:=hF;have hb:=Tryz.underlying4
  have hn1:¬(f1.name= "_"):=by rw [n1];decide
  have hn2:¬(f2.name= "_"):=by rw [n2];decide
  have e:((s,a,b)==(s',a',b'))=(s==s' && (a==a' && b==b')):=rfl
  rw [e]
  simp only [Op.eqFields,ne_eq,hn1,hn2,not_false_eq_true,if_true,t1,t2,o1,o2,Sem.run_bind,QfI,QcW,Qgd,Result.andThen_ok,run_equalIn_bool' w (d+1) 4 _ _ hb]
  by_cases h1:s=s'
  ·subst h1
   simp only [beq_self_eq_true,Bool.not_true,Bool.false_eq_true,if_false,Sem.run_bind,QcW,Qgd,Result.andThen_ok,Bool.true_and]
   cases hc:(a==a' && b==b') <;> simp
  ·have h1':(s==s')=false:=beq_eq_false_iff_ne.2 h1
   rw [h1']
   simp
theorem Qgb (w:World) (f:Pt) (i:Nat) (h:i < 8):(part 186 (ptA f) (i * 3)).run Tryz.prog w=.ok (ipv (f i)) w:=by
 simp [part,Sem.run_bind,Qgu,QdM,Qbg f i h]
theorem QaV (d:Nat) (f g:Pt) (w:World):∀is:List Nat,(∀i∈is,i < 8)→(Op.eqItems (d+1+1+1) 186 3 (ptA f) (ptA g) is).run Tryz.prog w=.ok (is.all (fun i=> f i==g i)) w
 |[],_=> by simp [Op.eqItems]
 |i::is,h=> by
  have hi:=h i (by simp)
  simp only [Op.eqItems,Sem.run_bind,Qgb w f i hi,Qgb w g i hi,QhV,Result.andThen_ok]
  cases hc:(f i==g i) with
  |false=> simp [hc]
  |true=> simp only [Bool.not_true,Bool.false_eq_true,if_false];rw [QaV d f g w is (fun j hj=> h j (by simp [hj]))];simp [hc]
theorem QhX (f g:Pt) (w:World):(Op.equalIn 10000 188 (ptv f) (ptv g)).run Tryz.prog w=.ok (Q9I f g) w:=by
 have hi:=QhJ
 cases hq:Tryz.prog.info? 186 with
 |none=> rw [hq] at hi;cases hi
 |some i=>
  rw [show (10000:Nat)=9996+1+1+1+1 from rfl,run_equalIn_array w (9996+1+1+1) _ _ ptU hq,QgH]
  exact QaV 9996 f g w _ (fun i hi=> by simpa using hi)
def Q21 (m:Pm):Bool:=Q1C m.key && Q0a m.l && decide (1≤m.ring.length) && decide (m.ring.length≤3) && (List.range m.ring.length).all (fun i=> Q1h (m.ring.getD i [])) && Q9I (Q2P (m.ring.getD 0 [])) (Q2r m.key m.l)
theorem Qfp {m:Pm} (h:Q1C m.key=false∨Q0a m.l=false∨m.ring.length < 1∨3 < m.ring.length∨(∃i,i < m.ring.length∧Q1h (m.ring.getD i [])=false)∨Q9I (Q2P (m.ring.getD 0 [])) (Q2r m.key m.l)=false):Q21 m=false:=by
 rw [Bool.eq_false_iff]
 intro hb
 unfold Q21 at hb
 simp only [Bool.and_eq_true,decide_eq_true_eq,List.all_eq_true,List.mem_range] at hb
 obtain ⟨⟨⟨⟨⟨h1,h2⟩,h3⟩,h4⟩,h5⟩,h6⟩:=hb
 rcases h with h|h|h|h|⟨i,hi,h⟩|h
 ·rw [h1] at h;cases h
 ·rw [h2] at h;cases h
 ·omega
 ·omega
 ·rw [h5 i hi] at h;cases h
 ·rw [h6] at h;cases h
theorem Q9N {m:Pm} (h1:Q1C m.key=true) (h2:Q0a m.l=true) (h3:1≤m.ring.length) (h4:m.ring.length≤3) (h5:∀i,i < m.ring.length→Q1h (m.ring.getD i [])=true) (h6:Q9I (Q2P (m.ring.getD 0 [])) (Q2r m.key m.l)=true):Q21 m=true:=by
 unfold Q21
 simp only [Bool.and_eq_true,decide_eq_true_eq,List.all_eq_true,List.mem_range]
 exact ⟨⟨⟨⟨⟨h1,h2⟩,h3⟩,h4⟩,h5⟩,h6⟩
def Qhd (m:Pm) (o:Option Addr) (cap:Nat) (w:World) (e:Ending) (w':World):Prop:=∃vP,e=.returned (.tuple #[vP,.bool (Q21 m)])∧(Q21 m=true→∃o2 c2,vP=Q5W m.key (.slice o m.l.length cap) (.slice o2 m.ring.length c2)∧ownL Q1T 188 w' w.heap.size (.slice o2 m.ring.length c2) (m.ring.map Q2P))∧(Q21 m=false→vP=Q5W 0 (.slice none 0 0) (.slice none 0 0))∧Below w.heap.size w w'
theorem Q5S {m:Pm} {o:Option Addr} {cap:Nat} {w w':World} (h:Q21 m=false) (hb:Below w.heap.size w w'):Qhd m o cap w (.returned (.tuple #[Q5W 0 (.slice none 0 0) (.slice none 0 0),.bool false])) w':=
 ⟨_,by rw [h],fun h'=> absurd (h.symm.trans h') (by simp),fun _=> rfl,hb⟩
theorem QgD (w:World) (f:Pt):RdL Q1T (w.alloc (.cells (ptA f) 188)).heap.size (w.alloc (.cells (ptA f) 188)) (some ⟨w.heap.size,0,none⟩) [f]:=ownL.rd (L:=Q1T) (Q57 w f)
theorem QfK (R:List (List (List Int))) (i:Nat) (h:i < R.length):(R.map Q2P).take (i+1)=(R.map Q2P).take i++[Q2P (R.getD i [])]:=by
 have hk:i < (R.map Q2P).length:=by rw [List.length_map];exact h
 rw [List.take_succ_eq_append_getElem hk]
 simp [h]
theorem QdB {w:World} {base:Nat} {v:Value} {fs:List Pt} (h:ownL Q1T 188 w base v fs) (hp:0 < fs.length):∃g c,v=.slice (some ⟨g,0,none⟩) fs.length c:=by
 rcases h.2 with ⟨_,h0⟩|⟨g,cap,cur,e,_⟩
 ·omega
 ·exact ⟨g,cap,e⟩
theorem QdU {w:World} {base g n c:Nat} {lll:List (List (List Int))} (h:ownL Q1T 188 w base (.slice (some ⟨g,0,none⟩) n c) (lll.map Q2P)) (hp:0 < lll.length):w.rangeAt g 0 (ptL (Q2P (lll.getD 0 []))):=by
 rcases ownL.rds (L:=Q1T) h with h1|⟨b,off,e,_,r⟩
 ·have:(lll.map Q2P).length=0:=by rw [h1];rfl
  rw [List.length_map] at this;omega
 ·injection e with e
  injection e with e1 e2 e3
  subst e1 e2
  have h2:=RdL.range r 0 (by rw [List.length_map];exact hp)
  have e4:(lll.map Q2P).getD 0 ptZ=Q2P (lll.getD 0 []):=by simp [hp]
  rw [e4] at h2
  simpa using h2
theorem Qht {W:World} {B:Nat} {x y z:Value} {T:TypeId} (h:W.heap[B]? =some (.cells #[x,y,z] T (0,0))):W.cell? ⟨B,0,none⟩=some x∧W.cell? ⟨B,1,none⟩=some y∧W.cell? ⟨B,2,none⟩=some z∧W.frozen? ⟨B,0,none⟩=false∧W.frozen? ⟨B,1,none⟩=false∧W.frozen? ⟨B,2,none⟩=false:=
 ⟨Q00 h 0 _ rfl,Q00 h 1 _ rfl,Q00 h 2 _ rfl,Q01 h 0,Q01 h 1,Q01 h 2⟩
theorem QgE:Tryz.prog.eqGuardType Tryz.prog.depth 188=false:=by kernel_rfl
theorem Q7f (key:Int) (o:Option Addr) (cap:Nat) (l:List Bk) (oR:Option Addr) (cR:Nat) (lll:List (List (List Int))) (n:Nat) (hnn:n=lll.length) (w:World) (hR:RdK w.heap.size w o l) (hG:RiR 0 w.heap.size w (.slice oR n cR) lll) (hf:Q36 ⟨key,l,lll⟩):
  Calls Tryz.prog 142 #[plv key (.slice o l.length cap) (.slice oR n cR)] w fun e w'=> Qhd ⟨key,l,lll⟩ o cap w e w':=by
 have HNN:=Q02 hnn;obtain ⟨hf1,hf2,hf3,hf4,hf5⟩:=hf
 dsimp only at hf1 hf2 hf3 hf4 hf5
 rw [←hnn] at hf2
 have HX:=Q02 hf4;have HY:=Q02 hf5;clear hnn hf4 hf5 hf3;obtain ⟨W0,hW0⟩:∃W,((w.alloc (.cells #[.int .i64 key,.slice o l.length cap,.slice oR n cR] 29)).alloc (.cells #[.int .i64 0,.slice none 0 0,.slice none 0 0] 127))=W:=⟨_,rfl⟩
 have hb_W0:Below w.heap.size w W0:=by rw [←hW0];exact (((Below.refl _ _).alloc (Kaq _) _).alloc (by simp <;> omega) _)
 have HB:=Q02 hb_W0;clear hb_W0
 have zz:w.heap.size < W0.heap.size:=by rw [←hW0];simp <;> omega
 obtain ⟨z0,z1,z2⟩:=alc3v0v2 hW0
 have zr:w.heap.size+1 < W0.heap.size:=by rw [←hW0];simp
 obtain ⟨r0,r1,r2⟩:=alc3v1v2 hW0;obtain ⟨fr0,fr1,fr2⟩:=alf3v1v2 hW0
 have HR0:=Q02 (show W0.heap[w.heap.size+1]? =some (.cells #[.int .i64 0,.slice none 0 0,.slice none 0 0] 127 (0,0)) by rw [←hW0];exact Q1N w _ _ _)
 have hzr:=zr;have hzz0:=zz
 have HKE:=Q02 (fun W=> Q0S key W)
 have HBO:=Q02 (Q2x o cap l W0 ((hR.kept HB.out (Kaq _)).le HB.out.size) hf1);have HRK:=Q02 hR;have HG:=Q02 hG;clear hR hG
 have HNO:=Q02 (fun h=> Qfp (m:=⟨key,l,lll⟩) h)
 have hw0:=HB.out.size
 cases hk:Q1C key with
 |false=>
  rw [hk] at HKE
  go_enter Tryz.func142,Tryz.ntmps142
  go_wp2_with (first|(go_at_call 115;refine (HKE.out _).mono ?_;rintro e w1 ⟨rfl,rfl⟩)|(go_at_call 175;refine HBO.out.mono ?_;rintro e w2 ⟨rfl,hb2⟩;have hb2:=Q02 hb2))
  refine bodyPost_ret (v:=.tuple #[Q5W 0 (.slice none 0 0) (.slice none 0 0),.bool false]) (by simp [results,Tryz.results142,go_sem,r0,r1,r2]) rfl (Q5S (HNO.out (.inl hk)) (Q0u HB.out (Nat.le_succ _) _ _ _))
 |true=>
  rw [hk] at HKE
  have HK:=Q02 hk;clear hk
  cases hbo:Q0a l with
  |false=>
   rw [hbo] at HBO
   go_enter Tryz.func142,Tryz.ntmps142
   go_wp2_with (first|(go_at_call 115;refine (HKE.out _).mono ?_;rintro e w1 ⟨rfl,rfl⟩)|(go_at_call 175;refine HBO.out.mono ?_;rintro e w2 ⟨rfl,hb2⟩;have s0:=bC hb2 r0 zr;have s1:=bC hb2 r1 zr;have s2:=bC hb2 r2 zr;have t0:=bF hb2 fr0 zr;have t1:=bF hb2 fr1 zr;have t2:=bF hb2 fr2 zr;have hb2:=Q02 hb2))
   refine bodyPost_ret (v:=.tuple #[Q5W 0 (.slice none 0 0) (.slice none 0 0),.bool false]) (by simp [results,Tryz.results142,go_sem,s0,s1,s2]) rfl (Q5S (HNO.out (.inr (.inl hbo))) (Q0u (HB.out.trans (hb2.out.mono HB.out.size)) (Nat.le_succ _) _ _ _))
  |true=>
   rw [hbo] at HBO
   have HBK:=Q02 hbo;clear hbo
   by_cases h1:(n:Int) < 1
   ·go_enter Tryz.func142,Tryz.ntmps142
    go_wp2_with (first|(go_at_call 115;refine (HKE.out _).mono ?_;rintro e w1 ⟨rfl,rfl⟩)|(go_at_call 175;refine HBO.out.mono ?_;rintro e w2 ⟨rfl,hb2⟩;have s0:=bC hb2 r0 zr;have s1:=bC hb2 r1 zr;have s2:=bC hb2 r2 zr;have t0:=bF hb2 fr0 zr;have t1:=bF hb2 fr1 zr;have t2:=bF hb2 fr2 zr;have y0:=bC hb2 z0 zz;have y1:=bC hb2 z1 zz;have y2:=bC hb2 z2 zz;have hb2:=Q02 hb2))
    refine bodyPost_ret (v:=.tuple #[Q5W 0 (.slice none 0 0) (.slice none 0 0),.bool false]) (by simp [results,Tryz.results142,go_sem,s0,s1,s2]) rfl (Q5S (HNO.out (.inr (.inr (.inl (show lll.length < 1 by have:=HNN.out;omega))))) (Q0u (HB.out.trans (hb2.out.mono HB.out.size)) (Nat.le_succ _) _ _ _))
   by_cases h3:(3:Int) < (n:Int)
   ·go_enter Tryz.func142,Tryz.ntmps142
    go_wp2_with (first|(go_at_call 115;refine (HKE.out _).mono ?_;rintro e w1 ⟨rfl,rfl⟩)|(go_at_call 175;refine HBO.out.mono ?_;rintro e w2 ⟨rfl,hb2⟩;have s0:=bC hb2 r0 zr;have s1:=bC hb2 r1 zr;have s2:=bC hb2 r2 zr;have t0:=bF hb2 fr0 zr;have t1:=bF hb2 fr1 zr;have t2:=bF hb2 fr2 zr;have y0:=bC hb2 z0 zz;have y1:=bC hb2 z1 zz;have y2:=bC hb2 z2 zz;have hb2:=Q02 hb2))
    refine bodyPost_ret (v:=.tuple #[Q5W 0 (.slice none 0 0) (.slice none 0 0),.bool false]) (by simp [results,Tryz.results142,go_sem,s0,s1,s2]) rfl (Q5S (HNO.out (.inr (.inr (.inr (.inl (show 3 < lll.length by have:=HNN.out;omega)))))) (Q0u (HB.out.trans (hb2.out.mono HB.out.size)) (Nat.le_succ _) _ _ _))
   have h1n:1≤n:=by omega
   have h3n:n≤3:=by omega
   go_enter Tryz.func142,Tryz.ntmps142
   go_wp2_with (first|(go_at_call 115;refine (HKE.out _).mono ?_;rintro e w1 ⟨rfl,rfl⟩)|(go_at_call 175;refine HBO.out.mono ?_;rintro e w2 ⟨rfl,hb2⟩;have s0:=bC hb2 r0 zr;have s1:=bC hb2 r1 zr;have s2:=bC hb2 r2 zr;have t0:=bF hb2 fr0 zr;have t1:=bF hb2 fr1 zr;have t2:=bF hb2 fr2 zr;have y0:=bC hb2 z0 zz;have y1:=bC hb2 z1 zz;have y2:=bC hb2 z2 zz;have hb2:=Q02 hb2))
   have hs2:=hb2.out.size;have HBC:=Q02 (HB.out.trans (hb2.out.mono HB.out.size));have HRB:=Q02 ((hb2.out.block _ hzr).trans HR0.out);clear z0 z1 z2 r0 r1 r2 fr0 fr1 fr2 s0 s1 s2 t0 t1 t2 HKE HBO
   go_loopw [4,35] (fun rv iv wr=> ∃(i:Nat),i≤n∧iv=.int .i64 (i:Int)∧Hid (ownL Q1T 188 wr w2.heap.size rv ((lll.map Q2P).take i))∧Hid (∀j,j < i→Q1h (lll.getD j [])=true)∧Hid (Below w2.heap.size w2 wr))
    (fun _ iv _=> n - (intOf iv).toNat)
   case atStart=> exact ⟨0,Kcq _,rfl,by rw [List.take_zero];exact World.ownsRow_nil _ _ _ _,fun j hj=> absurd hj (Nat.not_lt_zero _),Below.refl _ _⟩
   case round=>
    rename_i rv _
    obtain ⟨i,hi',rfl,HOW,HOK,HBR⟩:=hrel;have hsr:=HBR.out.size
    have y0w:=bC HBR.out y0 (by omega)
    have y1w:=bC HBR.out y1 (by omega)
    have y2w:=bC HBR.out y2 (by omega)
    have HBW:=Q02 (HBC.out.trans (HBR.out.mono (show w.heap.size≤w2.heap.size by omega)))
    have hrb:=(HBR.out.block _ (show w.heap.size+1 < w2.heap.size by omega)).trans HRB.out
    by_cases hlt:i < n
    ·skip
     have hlt':(i:Int) < (n:Int):=by omega
     have hif:i < lll.length:=by rw [←HNN.out];exact hlt
     obtain ⟨b,off,o',c',rfl,hbl,hcu0,hru0⟩:=HG.out.at (Kaq _) i hif;have hcu:=bC HBW.out hcu0 hbl;have hru:=(hru0.kept HBW.out (Kaq _)).le HBW.out.size;have HTK:=Q02 (QfK lll i hif);have hxi:=HX.out i hif;have hyi:=HY.out i hif
     have HNI:=Q02 (fun h=> HNO.out (.inr (.inr (.inr (.inr (.inl ⟨i,hif,h⟩))))))
     have HPT:=Q02 (Q3g o' c' (lll.getD i []) wr hru hxi hyi);clear hcu0 hru0 hru hxi hyi;obtain ⟨ll,hll⟩:∃ll,lll.getD i []=ll:=⟨_,rfl⟩
     rw [hll] at hcu HTK HNI HPT
     have HLL:=Q02 hll;clear hll;obtain ⟨m,hm⟩:∃m,ll.length=m:=⟨_,rfl⟩
     rw [hm] at hcu HPT
     clear hm
     cases hok:Q1h ll with
     |false=>
      rw [hok] at HPT
      simp only [Bool.false_eq_true,if_false] at HPT
      have g0:=Q01 hrb 0;have g1:=Q01 hrb 1;have g2:=Q01 hrb 2
      go_wp2_with fail
      refine HPT.out.mono ?_
      rintro e v1 ⟨rfl,hb1⟩
      have hs1:=hb1.size
      have hrb1:=(hb1.block _ (show w.heap.size+1 < wr.heap.size by omega)).trans hrb
      obtain ⟨W2,hW2⟩:∃W,v1.alloc (.cells (ptA ptZ) 188)=W:=⟨_,rfl⟩
      have hrb2:W2.heap[w.heap.size+1]? =some (.cells #[.int .i64 0,.slice none 0 0,.slice none 0 0] 127 (0,0)):=by rw [←hW2];exact (Below.heap_alloc _ _ _ (by omega)).trans hrb1
      have HB2:Hid (Below w.heap.size w W2):=by rw [←hW2];exact (HBW.out.trans (hb1.mono HBW.out.size)).alloc (by have:=HBW.out.size;omega) _
      have q0:W2.cell? ⟨w.heap.size+1,0,none⟩=some (.int .i64 0):=Q00 hrb2 0 _ rfl;have gq0:=Q01 hrb2 0;have q1:W2.cell? ⟨w.heap.size+1,1,none⟩=some (.slice none 0 0):=Q00 hrb2 1 _ rfl;have gq1:=Q01 hrb2 1;have q2:W2.cell? ⟨w.heap.size+1,2,none⟩=some (.slice none 0 0):=Q00 hrb2 2 _ rfl;have gq2:=Q01 hrb2 2;clear hb1 hrb1 hrb2
      go_wp2_with (first|(refine Q0M rfl (.tmp 7) (.tmp 42) rfl v1.heap.size ptZ ptZ rfl rfl (World.alloc_heap_new v1 _) ?_;rw [World.setRow_alloc_new,hW2]))
      refine bodyPost_ret (v:=.tuple #[Q5W 0 (.slice none 0 0) (.slice none 0 0),.bool false]) (by simp [results,Tryz.results142,go_sem,q0,q1,q2]) rfl (Q5S (HNI.out hok) (Q0u HB2.out (Nat.le_succ _) _ _ _))
     |true=>
      have HOKI:=Q02 hok
      rw [hok] at HPT
      simp only [if_true] at HPT
      clear hok;obtain ⟨f,hf⟩:∃f,Q2P ll=f:=⟨_,rfl⟩
      rw [hf] at HPT HTK
      clear hf
      go_wp2_with fail
      refine HPT.out.mono ?_
      rintro e v1 ⟨rfl,hb1⟩
      have hs1:=hb1.size;obtain ⟨W2,hW2⟩:∃W,v1.alloc (.cells (ptA f) 188)=W:=⟨_,rfl⟩
      have hb2':Below wr.heap.size wr W2:=by rw [←hW2];exact hb1.alloc hs1 _
      have HZ5:Hid (W2.heap[v1.heap.size]? =some (.cells (ptA f) 188 (0,0))):=by rw [←hW2];exact World.alloc_heap_new v1 _
      have HOW2:=Q02 (Q03 HOW.out hb2');have HB3:=Q02 (HBR.out.trans (hb2'.mono hsr));have hs3:=hb2'.size;obtain ⟨oq,cq,eq,_⟩:=ownL.open (L:=Q1T) HOW.out
      have HLN:=Q02 (show ((lll.map Q2P).take i).length=i by rw [List.length_take,List.length_map];omega)
      rw [HLN.out] at eq
      subst eq;clear hb1 hb2';obtain ⟨W3,hW3⟩:∃W,W2.alloc (.cells (ptA f) 188)=W:=⟨_,rfl⟩
      have hb3:Below W2.heap.size W2 W3:=by rw [←hW3];exact (Below.refl _ _).alloc (Kaq _) _
      have HRO:=Q02 (show RdL Q1T W3.heap.size W3 (some ⟨W2.heap.size,0,none⟩) [f] by rw [←hW3];exact QgD W2 f)
      have HOW3:=Q02 (Q03 HOW2.out hb3)
      have HB4:=Q02 (HB3.out.trans (hb3.mono (by omega)))
      have hs4:=hb3.size;clear hb3
      go_wp2_with (first|(refine Q0M rfl (.tmp 7) (.tmp 42) rfl v1.heap.size f ptZ rfl rfl (World.alloc_heap_new v1 _) ?_;rw [World.setRow_alloc_new,hW2])|(refine Q1I rfl (.tmp 7) rfl v1.heap.size rfl f HZ5.out ?_)|(refine Q1W rfl (.tmp 48) rfl f rfl ?_;rw [hW3])|(at_builtin;refine Q07 Qhi rfl (.tmp 47) (.tmp 49) rfl w2.heap.size (.slice oq i cq) ((lll.map Q2P).take i) rfl HOW3.out (some ⟨W2.heap.size,0,none⟩) 1 W3.heap.size [f] 1 rfl rfl (by simp) HRO.out (by rw [HLN.out];simp;omega) (by omega) ?_))
      intro v8 w8 ho8 hg8 _
      have HB8:=Q02 (HB4.out.grown hg8 (by omega) (fun k h=> (HOW3.out.lt k h).1))
      have HO8:=Q02 ho8;clear ho8 hg8
      go_wp2
      go_roundw
      case rel=> exact ⟨i+1,by omega,by go_num,by rw [HTK.out];exact HO8.out,(fun j hj=> by rcases Nat.lt_succ_iff_lt_or_eq.1 hj with h'|h';(· exact HOK.out j h');(· rw [h',HLL.out];exact HOKI.out)),HB8.out⟩
      case measure=> simp [intOf];omega
    ·skip
     have e:i=n:=by omega
     subst e
     have HALL:=Q02 (show (lll.map Q2P).take i=lll.map Q2P by rw [HNN.out,show lll.length=(lll.map Q2P).length by simp,List.take_length])
     rw [HALL.out] at HOW
     obtain ⟨g,cq,eq⟩:=QdB HOW.out (by rw [List.length_map,←HNN.out];omega)
     rw [List.length_map,←HNN.out] at eq
     subst eq
     have HRG:=Q02 (show wr.rangeAt g 0 (ptL (Q2P (lll.getD 0 []))) from QdU HOW.out (by rw [←HNN.out];omega))
     have hgl:g < wr.heap.size:=(HOW.out.lt g rfl).2
     have HYS:=Q02 (fun h6=> Q9N (m:=⟨key,l,lll⟩) HK.out HBK.out (by show 1≤lll.length;rw [←HNN.out];exact h1n) (by show lll.length≤3;rw [←HNN.out];exact h3n) (fun j hj=> HOK.out j (by rw [HNN.out];exact hj)) h6)
     have HN6:=Q02 (fun h6=> HNO.out (.inr (.inr (.inr (.inr (.inr h6))))))
     have HNT:=Q02 (Q1u key o cap l wr.drew ((HRK.out.kept HBW.out (Kaq _)).le HBW.out.size) hf1 HK.out HBK.out)
     have HEQ:=Q02 (fun W=> QhX (Q2P (lll.getD 0 [])) (Q2r key l) W)
     obtain ⟨f0,hf0⟩:∃f,Q2P (lll.getD 0 [])=f:=⟨_,rfl⟩;obtain ⟨f1,hf1'⟩:∃f,Q2r key l=f:=⟨_,rfl⟩
     dsimp only at HYS HN6
     rw [hf0,hf1'] at HYS HN6 HEQ
     rw [hf0] at HRG
     rw [hf1'] at HNT
     clear hf0 hf1'
     have h0n:(0:Int) < (i:Int):=by omega
     have hine:¬(i=0):=by omega
     have hgd:=QgE;have HRB1:=Q02 hrb;clear hrb h1 h3
     have HALLB:=Q02 (fun v1 (hb:Below wr.heap.size wr v1)=> Qht ((hb.block _ (show w.heap.size+1 < wr.heap.size by omega)).trans HRB1.out))
     have hzwr:w.heap.size < wr.heap.size:=by omega
     cases hr:Q9I f0 f1 with
     |false=>
      go_wp2
      refine wp_region_held_drew (S:=(fun w'=> w'.rangeAt g 0 (ptL f0)∧w'.cell? ⟨w.heap.size,0,none⟩=some (.int .i64 key)∧w'.cell? ⟨w.heap.size,1,none⟩=some (.slice o l.length cap))) (by kernel_rfl) ⟨HRG.out,y0w,y1w⟩ (fun hHeld=> ?_)
      refine wpAnyH_take (i:=0) (oi:=_) (v:=.slice (some ⟨g,0,none⟩) i cq) rfl (by kernel_rfl) (by kernel_rfl) (by kernel_rfl) (fun _ _ _ h=> h) (Or.inl ⟨by rfl,fun w hSw=> by obtain ⟨_,hS1,hS2⟩:=hSw;go_simp⟩) hHeld ?_
      try simp only [Act.put,List.setIfInBounds_toArray,List.set_cons_zero,List.set_cons_succ]
      refine wpAnyH_take (i:=1) (oi:=_) (v:=.pointer (some ⟨g,0,none⟩)) rfl (by kernel_rfl) (by kernel_rfl) (by kernel_rfl) (fun _ _ _ h=> h) (Or.inl ⟨by rfl,fun w hSw=> by obtain ⟨_,hS1,hS2⟩:=hSw;go_simp⟩) hHeld ?_
      try simp only [Act.put,List.setIfInBounds_toArray,List.set_cons_zero,List.set_cons_succ]
      refine wpAnyH_take (i:=2) (oi:=_) (v:=ptv f0) rfl (by kernel_rfl) (by kernel_rfl) (by kernel_rfl) (fun _ _ _ h=> h) (yieldsIf_load_mid (by rfl) _ _ rfl g 0 rfl (ptL f0) _ (fun w h=> h.1) ptU rfl ptI) hHeld ?_
      try simp only [Act.put,List.setIfInBounds_toArray,List.set_cons_zero,List.set_cons_succ]
      refine wpAnyH_take (i:=3) (oi:=_) (v:=.pointer (some ⟨w.heap.size,0,none⟩)) rfl (by kernel_rfl) (by kernel_rfl) (by kernel_rfl) (fun _ _ _ h=> h) (Or.inl ⟨by rfl,fun w hSw=> by obtain ⟨_,hS1,hS2⟩:=hSw;go_simp⟩) hHeld ?_
      try simp only [Act.put,List.setIfInBounds_toArray,List.set_cons_zero,List.set_cons_succ]
      refine wpAnyH_take (i:=4) (oi:=_) (v:=.int .i64 key) rfl (by kernel_rfl) (by kernel_rfl) (by kernel_rfl) (fun _ _ _ h=> h) (Or.inl ⟨by rfl,fun w hSw=> by obtain ⟨_,hS1,hS2⟩:=hSw;go_simp⟩) hHeld ?_
      try simp only [Act.put,List.setIfInBounds_toArray,List.set_cons_zero,List.set_cons_succ]
      refine wpAnyH_take (i:=5) (oi:=_) (v:=.pointer (some ⟨w.heap.size,1,none⟩)) rfl (by kernel_rfl) (by kernel_rfl) (by kernel_rfl) (fun _ _ _ h=> h) (Or.inl ⟨by rfl,fun w hSw=> by obtain ⟨_,hS1,hS2⟩:=hSw;go_simp⟩) hHeld ?_
      try simp only [Act.put,List.setIfInBounds_toArray,List.set_cons_zero,List.set_cons_succ]
      refine wpAnyH_take (i:=6) (oi:=_) (v:=.slice o l.length cap) rfl (by kernel_rfl) (by kernel_rfl) (by kernel_rfl) (fun _ _ _ h=> h) (Or.inl ⟨by rfl,fun w hSw=> by obtain ⟨_,hS1,hS2⟩:=hSw;go_simp⟩) hHeld ?_
      try simp only [Act.put,List.setIfInBounds_toArray,List.set_cons_zero,List.set_cons_succ]
      refine wpAnyH_ready (rs:=[7]) (by kernel_rfl) (by simp) ?_
      refine AllReadyH.cons rfl (fun K hK=> ?_) AllReadyH.nil
      go_simp
      go_at_call 118
      refine HNT.out.mono ?_
      rintro e v1 ⟨rfl,hb4⟩
      replace hb4:Below wr.heap.size wr v1:=(Below.drew (Below.refl _ _)).trans hb4;have k0:=bC hb4 y0w hzwr;have k1:=bC hb4 y1w hzwr;have k2:=bC hb4 y2w hzwr;have hra:=Q1j HRG.out hb4 hgl;obtain ⟨q0,q1,q2,gq0,gq1,gq2⟩:=HALLB.out v1 hb4;have HB4:=Q02 hb4;clear hb4
      go_wp2_with fail
      refine hK.out _ _ ⟨hra,k0,k1⟩ (fun hHeld=> ?_)
      clear hK K
      try simp only [Act.put,List.setIfInBounds_toArray,List.set_cons_zero,List.set_cons_succ]
      refine wpAnyH_ready (rs:=[8]) (by kernel_rfl) (by simp) ?_
      refine AllReadyH.cons rfl (fun K hK=> ?_) AllReadyH.nil
      have heq:=HEQ.out v1
      rw [hr] at heq
      go_simp
      refine hK.out _ _ ⟨hra,k0,k1⟩ (fun hHeld=> ?_)
      clear hK K hHeld heq
      try simp only [Act.put,List.setIfInBounds_toArray,List.set_cons_zero,List.set_cons_succ]
      refine wpAnyH_done (by kernel_rfl) ?_ _
      clear hra
      go_wp2
      refine bodyPost_ret (v:=.tuple #[Q5W 0 (.slice none 0 0) (.slice none 0 0),.bool false]) (by simp [results,Tryz.results142,go_sem,q0,q1,q2]) rfl (Q5S (HN6.out hr) (Q0u (HBW.out.trans (HB4.out.mono HBW.out.size)) (Nat.le_succ _) _ _ _))
     |true=>
      go_wp2
      refine wp_region_held_drew (S:=(fun w'=> w'.rangeAt g 0 (ptL f0)∧w'.cell? ⟨w.heap.size,0,none⟩=some (.int .i64 key)∧w'.cell? ⟨w.heap.size,1,none⟩=some (.slice o l.length cap))) (by kernel_rfl) ⟨HRG.out,y0w,y1w⟩ (fun hHeld=> ?_)
      refine wpAnyH_take (i:=0) (oi:=_) (v:=.slice (some ⟨g,0,none⟩) i cq) rfl (by kernel_rfl) (by kernel_rfl) (by kernel_rfl) (fun _ _ _ h=> h) (Or.inl ⟨by rfl,fun w hSw=> by obtain ⟨_,hS1,hS2⟩:=hSw;go_simp⟩) hHeld ?_
      try simp only [Act.put,List.setIfInBounds_toArray,List.set_cons_zero,List.set_cons_succ]
      refine wpAnyH_take (i:=1) (oi:=_) (v:=.pointer (some ⟨g,0,none⟩)) rfl (by kernel_rfl) (by kernel_rfl) (by kernel_rfl) (fun _ _ _ h=> h) (Or.inl ⟨by rfl,fun w hSw=> by obtain ⟨_,hS1,hS2⟩:=hSw;go_simp⟩) hHeld ?_
      try simp only [Act.put,List.setIfInBounds_toArray,List.set_cons_zero,List.set_cons_succ]
      refine wpAnyH_take (i:=2) (oi:=_) (v:=ptv f0) rfl (by kernel_rfl) (by kernel_rfl) (by kernel_rfl) (fun _ _ _ h=> h) (yieldsIf_load_mid (by rfl) _ _ rfl g 0 rfl (ptL f0) _ (fun w h=> h.1) ptU rfl ptI) hHeld ?_
      try simp only [Act.put,List.setIfInBounds_toArray,List.set_cons_zero,List.set_cons_succ]
      refine wpAnyH_take (i:=3) (oi:=_) (v:=.pointer (some ⟨w.heap.size,0,none⟩)) rfl (by kernel_rfl) (by kernel_rfl) (by kernel_rfl) (fun _ _ _ h=> h) (Or.inl ⟨by rfl,fun w hSw=> by obtain ⟨_,hS1,hS2⟩:=hSw;go_simp⟩) hHeld ?_
      try simp only [Act.put,List.setIfInBounds_toArray,List.set_cons_zero,List.set_cons_succ]
      refine wpAnyH_take (i:=4) (oi:=_) (v:=.int .i64 key) rfl (by kernel_rfl) (by kernel_rfl) (by kernel_rfl) (fun _ _ _ h=> h) (Or.inl ⟨by rfl,fun w hSw=> by obtain ⟨_,hS1,hS2⟩:=hSw;go_simp⟩) hHeld ?_
      try simp only [Act.put,List.setIfInBounds_toArray,List.set_cons_zero,List.set_cons_succ]
      refine wpAnyH_take (i:=5) (oi:=_) (v:=.pointer (some ⟨w.heap.size,1,none⟩)) rfl (by kernel_rfl) (by kernel_rfl) (by kernel_rfl) (fun _ _ _ h=> h) (Or.inl ⟨by rfl,fun w hSw=> by obtain ⟨_,hS1,hS2⟩:=hSw;go_simp⟩) hHeld ?_
      try simp only [Act.put,List.setIfInBounds_toArray,List.set_cons_zero,List.set_cons_succ]
      refine wpAnyH_take (i:=6) (oi:=_) (v:=.slice o l.length cap) rfl (by kernel_rfl) (by kernel_rfl) (by kernel_rfl) (fun _ _ _ h=> h) (Or.inl ⟨by rfl,fun w hSw=> by obtain ⟨_,hS1,hS2⟩:=hSw;go_simp⟩) hHeld ?_
      try simp only [Act.put,List.setIfInBounds_toArray,List.set_cons_zero,List.set_cons_succ]
      refine wpAnyH_ready (rs:=[7]) (by kernel_rfl) (by simp) ?_
      refine AllReadyH.cons rfl (fun K hK=> ?_) AllReadyH.nil
      go_simp
      go_at_call 118
      refine HNT.out.mono ?_
      rintro e v1 ⟨rfl,hb4⟩
      replace hb4:Below wr.heap.size wr v1:=(Below.drew (Below.refl _ _)).trans hb4;have k0:=bC hb4 y0w hzwr;have k1:=bC hb4 y1w hzwr;have k2:=bC hb4 y2w hzwr;have hra:=Q1j HRG.out hb4 hgl;obtain ⟨q0,q1,q2,gq0,gq1,gq2⟩:=HALLB.out v1 hb4;have HB4:=Q02 hb4;clear hb4
      go_wp2_with fail
      refine hK.out _ _ ⟨hra,k0,k1⟩ (fun hHeld=> ?_)
      clear hK K
      try simp only [Act.put,List.setIfInBounds_toArray,List.set_cons_zero,List.set_cons_succ]
      refine wpAnyH_ready (rs:=[8]) (by kernel_rfl) (by simp) ?_
      refine AllReadyH.cons rfl (fun K hK=> ?_) AllReadyH.nil
      have heq:=HEQ.out v1
      rw [hr] at heq
      go_simp
      refine hK.out _ _ ⟨hra,k0,k1⟩ (fun hHeld=> ?_)
      clear hK K hHeld heq
      try simp only [Act.put,List.setIfInBounds_toArray,List.set_cons_zero,List.set_cons_succ]
      refine wpAnyH_done (by kernel_rfl) ?_ _
      clear hra
      go_wp2
      refine bodyPost_ret (v:=.tuple #[Q5W key (.slice o l.length cap) (.slice (some ⟨g,0,none⟩) i cq),.bool true]) (by simp [results,Tryz.results142,go_sem,q0,q1,q2]) rfl ?_
      have hyes:=HYS.out hr
      have hlow:w.heap.size+1 < w2.heap.size:=by omega
      have hown:=Q0k (Q0k (Q0k (Q03 HOW.out HB4.out) hlow 0 (.int .i64 key)) hlow 1 (.slice o l.length cap)) hlow 2 (.slice (some ⟨g,0,none⟩) i cq);have hni:=HNN.out;subst hni
      exact ⟨_,by rw [hyes],fun _=> ⟨some ⟨g,0,none⟩,cq,rfl,Q04 hown (by omega)⟩,fun h=> absurd (h.symm.trans hyes) (by simp),Q0u (HBW.out.trans (HB4.out.mono HBW.out.size)) (Nat.le_succ _) _ _ _⟩
theorem Qcl {l:List Int} {j:Nat} (hj:j < l.length) (h:idB (l.getD j 0)=false):Q0O l=false:=by
 unfold Q0O
 by_cases h2:l.length=2
 ·have h0:¬(l.length=0):=by omega
  match j,hj,h with
  |0,_,h=> simp only [h];simp [h0]
  |1,_,h=> simp only [h];simp [h0]
  |j+2,hj,_=> omega
 ·have h0:¬(l.length=0):=by omega
  simp [h2,h0]
theorem Q93 {aa bb:List (List Int)}:∀k,Q0U aa bb k=0→∀i,i < k→aa.getD i []=bb.getD i []
 |0,_=> fun i hi=> absurd hi (Nat.not_lt_zero _)
 |k+1,h=> fun i hi=> by
  have hb:=(Q5H aa bb k).1
  by_cases e:aa.getD k []=bb.getD k []
  ·have h1:=Q3Y (aa:=aa) (bb:=bb) (k:=k) rfl rfl e
   rcases Nat.lt_succ_iff_lt_or_eq.1 hi with h'|h'
   ·exact Q93 k (by omega) i h'
   ·rw [h'];exact e
  ·have h1:=Q60 (aa:=aa) (bb:=bb) (k:=k) rfl rfl e
   omega
theorem Q4f {aa bb:List (List Int)}:∀k,(∀i,i < k→aa.getD i []=bb.getD i [])→Q0U aa bb k=0
 |0,_=> rfl
 |k+1,h=> by
  rw [←Q3Y (aa:=aa) (bb:=bb) (k:=k) rfl rfl (h k (by omega))]
  exact Q4f k (fun i hi=> h i (by omega))
theorem Q6v {ll:List (List Int)} (h:Q1h ll=true):ll.length=8∧∀i,i < 8→Q0O (ll.getD i [])=true:=by
 unfold Q1h at h
 simp only [Bool.and_eq_true,decide_eq_true_eq,List.all_eq_true,List.mem_range] at h
 exact h
theorem Qfj {key:Int} {l:List Bk} {ll:List (List Int)} (hl:Q0a l=true) (h:Q1h ll=true):Q1s ll (Q2Q key l)=0↔Q9I (Q2P ll) (Q2r key l)=true:=by
 obtain ⟨h8,hp⟩:=Q6v h
 have hm:Q1s ll (Q2Q key l)=Q0U ll (Q2Q key l) 8:=by rw [Q1s,if_pos ⟨h8,Q1B key l⟩]
 rw [hm]
 have hn:∀i,i < 8→(Q2Q key l).getD i []=Q0Z key i l:=fun i hi=> by unfold Q2Q;rw [Q27 _ _ _ hi]
 constructor
 ·intro h0
  unfold Q9I
  rw [List.all_eq_true]
  intro i hi
  have hi':i < 8:=by simpa using hi
  have h1:=Q93 8 h0 i hi'
  unfold Q2P Q2r
  rw [h1,hn i hi']
  exact beq_self_eq_true _
 ·intro h0
  unfold Q9I at h0
  rw [List.all_eq_true] at h0
  refine Q4f 8 (fun i hi=> ?_)
  have h1:=eq_of_beq (h0 i (by simpa using hi))
  unfold Q2P Q2r at h1
  rw [hn i hi,←Q3X (hp i hi),h1,Q3X (Q8s key i hl)]
theorem QcR {m:Pm} (h1:Q1C m.key=true) (h2:Q0a m.l=true) (h3:1≤m.ring.length) (h4:m.ring.length≤3) (h5:∀i,i < m.ring.length→Q1h (m.ring.getD i [])=true) (h6:Q1s (m.ring.getD 0 []) (Q2Q m.key m.l)=0):Q21 m=true:=
 Q9N h1 h2 h3 h4 h5 ((Qfj h2 (h5 0 (by omega))).1 h6)
def Q9k (m:Pm) (k i g:Int):Pm:=if (Q21 m && Q0E k i g)=true then (match doL m.l k i g with|none=> m|some l=> ⟨m.key,l,(Q2Q m.key l::m.ring).take 3⟩) else pm0
def Qgz (m:Pm) (k i g:Int):Bool:=(Q21 m && Q0E k i g) && (doL m.l k i g).isSome
theorem Q1q {m:Pm} (h:Q21 m=true):Q1C m.key=true∧Q0a m.l=true∧1≤m.ring.length∧m.ring.length≤3∧∀i,i < m.ring.length→Q1h (m.ring.getD i [])=true:=by
 unfold Q21 at h
 simp only [Bool.and_eq_true,decide_eq_true_eq,List.all_eq_true,List.mem_range] at h
 obtain ⟨⟨⟨⟨⟨h1,h2⟩,h3⟩,h4⟩,h5⟩,h6⟩:=h
 exact ⟨h1,h2,h3,h4,h5⟩
theorem Q8y {l:List Int} (h:Q0O l=true):l.length≤2:=by
 unfold Q0O at h
 simp only [Bool.or_eq_true,Bool.and_eq_true,decide_eq_true_eq] at h
 omega
theorem QfR {ll:List (List Int)} (h:Q1h ll=true):Q3K (Q2P ll)=ll:=by
 obtain ⟨h8,hp⟩:=Q6v h
 apply List.ext_getElem
 ·rw [Q3G,h8]
 ·intro i h1 h2
  have hi:i < 8:=by rw [Q3G] at h1;exact h1
  have e:ll.getD i []=ll[i]:=by simp [h2]
  have:=Q3X (hp i hi)
  rw [e] at this
  simp [Q3K,Q2P,h2,this]
theorem Q9c {R:List (List (List Int))} (h:∀i,i < R.length→Q1h (R.getD i [])=true):(R.map Q2P).map Q3K=R:=by
 apply List.ext_getElem
 ·simp
 ·intro i h1 h2
  have:=QfR (h i h2)
  have e:R.getD i []=R[i]:=by simp [h2]
  rw [e] at this
  simp [this]
theorem Qes {key:Int} {l:List Bk} {R:List (List (List Int))} (hl:Q0a l=true) (h:∀i,i < R.length→Q1h (R.getD i [])=true):(Q2r key l::(R.map Q2P).take 2).map Q3K=(Q2Q key l::R).take 3:=by
 rw [List.map_cons,Q8o key hl,List.map_take,Q9c h]
 rfl
theorem Q6S {α:Type} (l:List α) (n i:Nat) (d:α) (h:i < n):(l.take n).getD i d=l.getD i d:=by
 rw [List.getD_eq_getElem?_getD,List.getElem?_take,if_pos h,←List.getD_eq_getElem?_getD]
theorem QgS {w:World} {base C:Nat} {oR2 o3:Option Addr} {n2 cR2 c3:Nat} {hsR hs3:List Hd} {key:Int} {l:List Bk} {R:List (List (List Int))} (hC:C≤w.heap.size) (ho:ownL Q0C 51 w base (.slice oR2 n2 cR2) (((o3,8,c3)::hsR).take 3)) (h3:ownL Q0C 47 w base (.slice o3 8 c3) hs3) (ht:Tab (fun b=> Q0Z key b l) 8 w base hs3) (hl:hsR.length=R.length) (hr:∀i,i < R.length→RcT 0 C w (hv hsR i) (R.getD i [])):RcR 0 w.heap.size w (.slice oR2 n2 cR2) ((Q2Q key l::R).take 3):=by
 refine ⟨((o3,8,c3)::hsR).take 3,by simp [hl],(InRow.ri (InRow.of ho)).mono (Kcq _) (Kaq _),fun i hi=> ?_⟩
 have hi3:i < 3:=by simp at hi;omega
 have e1:hv (((o3,8,c3)::hsR).take 3) i=hv ((o3,8,c3)::hsR) i:=by unfold hv;rw [Q6S _ _ _ _ hi3]
 have e2:((Q2Q key l::R).take 3).getD i []=(Q2Q key l::R).getD i []:=Q6S _ _ _ _ hi3
 rw [e1,e2]
 cases i with
 |zero=>
  have h5:=Qae ht
  refine ⟨hs3,h5.len,(InRow.ri (InRow.of h3)).mono (Kcq _) (Kaq _),fun j hj=> ⟨(InRow.ri (InRow.of (h5.row j hj))).mono (Kcq _) (Kaq _),InRow.cap (InRow.of (h5.row j hj))⟩⟩
 |succ i=>
  have hi':i < R.length:=by simp at hi;omega
  exact RcT.mon.go (hr i hi') (Kaq _) hC
theorem QgO {m:Pm} (k i g:Int) (h:Q36 m):Q36 (Q9k m k i g):=by
 unfold Q9k
 split
 ·next hb=>
  split
  ·exact h
  ·next l hl=>
   simp only [Bool.and_eq_true] at hb
   obtain ⟨h1,h2,h3,h4,h5⟩:=Q1q hb.1;have hok:=Q80 h2 hb.2 hl;have hlen:=Q3W hok
   have hrow:∀q,q < ((Q2Q m.key l::m.ring).take 3).length→(((Q2Q m.key l::m.ring).take 3).getD q []).length=8∧∀j,((((Q2Q m.key l::m.ring).take 3).getD q []).getD j []).length≤2:=fun q hq=> by
    have hq3:q < 3:=by simp at hq;omega
    have e2:((Q2Q m.key l::m.ring).take 3).getD q []=(Q2Q m.key l::m.ring).getD q []:=Q6S _ _ _ _ hq3
    rw [e2]
    cases q with
    |zero=> exact ⟨Q1B _ _,fun j=> Q6s _ _ j⟩
    |succ q=>
     have hq':q < m.ring.length:=by simp at hq;omega
     obtain ⟨t8,tp⟩:=Q6v (h5 q hq')
     refine ⟨t8,fun j=> ?_⟩
     by_cases hj:j < 8
     ·exact Q8y (tp j hj)
     ·show ((m.ring.getD q []).getD j []).length≤2
      rw [List.getD_eq_getElem?_getD,List.getElem?_eq_none (by omega)];simp
   have hl3:((Q2Q m.key l::m.ring).take 3).length≤3:=by simp;omega
   have hsz:∀q,QaO ((Q2Q m.key l::m.ring).take 3) q≤16:=fun q=> by
    by_cases hq:q < ((Q2Q m.key l::m.ring).take 3).length
    ·unfold QaO szT
     have:=Q4C (Qhe (((Q2Q m.key l::m.ring).take 3).getD q [])) 2 (fun j=> (hrow q hq).2 j) (((Q2Q m.key l::m.ring).take 3).getD q []).length
     rw [(hrow q hq).1] at this ⊢
     omega
    ·unfold QaO;rw [List.getD_eq_getElem?_getD,List.getElem?_eq_none (by omega)];exact Kcq _
   refine ⟨by show l.length≤_;omega,by show ((Q2Q m.key l::m.ring).take 3).length≤_;omega, ?_,fun q hq=> ?_,fun q hq j hj=> ?_⟩
   ·have:=Q4C (QaO ((Q2Q m.key l::m.ring).take 3)) 16 hsz ((Q2Q m.key l::m.ring).take 3).length
    show QcC (QaO ((Q2Q m.key l::m.ring).take 3)) ((Q2Q m.key l::m.ring).take 3).length≤_
    have hm:16 * ((Q2Q m.key l::m.ring).take 3).length≤48:=by omega
    omega
   ·have:=(hrow q hq).1
    show (((Q2Q m.key l::m.ring).take 3).getD q []).length≤_
    omega
   ·have:=(hrow q hq).2 j
    show ((((Q2Q m.key l::m.ring).take 3).getD q []).getD j []).length≤_
    omega
 ·exact ⟨by simp [pm0],by simp [pm0],by simp [pm0,szR,QcC],fun i hi=> absurd hi (Nat.not_lt_zero _),fun i hi=> absurd hi (Nat.not_lt_zero _)⟩
theorem Q8z (v:Value) (m:Pm) (k i g:Int) (w:World) (hR:RcPm 0 w.heap.size w v m) (hf:Q36 m):
  Calls Tryz.prog 123 #[v,cmd k i g] w fun e w'=> ∃v',e=.returned (.tuple #[v',.bool (Qgz m k i g)])∧InPm w.heap.size w'.heap.size w' v' (Q9k m k i g)∧Below w.heap.size w w':=by
 obtain ⟨vb,vr,rfl,hvb,hcb,rr,hcr⟩:=hR;obtain ⟨o,c,rfl,r⟩:=hvb.open
 have hnil:o=none→c=0:=fun e=> hcb _ _ (by rw [e])
 obtain ⟨oR,cR,rfl⟩:=RiR.len (RcR.ri rr)
 have hnilR:oR=none→cR=0:=fun e=> hcr _ _ (by rw [e])
 clear hvb hcb hcr;obtain ⟨key,l,lll⟩:=m
 dsimp only at *
 have HPM:=Q02 (show Q9k ⟨key,l,lll⟩ k i g=if (Q21 ⟨key,l,lll⟩ && Q0E k i g)=true then (match doL l k i g with|none=> ⟨key,l,lll⟩|some l'=> ⟨key,l',(Q2Q key l'::lll).take 3⟩) else pm0 from rfl)
 have HPF:=Q02 (show Qgz ⟨key,l,lll⟩ k i g=((Q21 ⟨key,l,lll⟩ && Q0E k i g) && (doL l k i g).isSome) from rfl)
 have HFA:=Q02 (fun h:Q21 ⟨key,l,lll⟩=true=> Q1q h)
 have HFIT:=Q02 hf;obtain ⟨hf1,hf2,hf3,hf4,hf5⟩:=hf
 dsimp only at hf1 hf2 hf3 hf4 hf5
 clear hf3 hf4 hf5;obtain ⟨W0,hW0⟩:∃W,(((w.alloc (.cells #[.int .i64 key,.slice o l.length c,.slice oR lll.length cR] 29)).alloc (.cells #[.int .i64 k,.int .i64 i,.int .i64 g] 77)).alloc (.cells #[.int .i64 0,.slice none 0 0,.slice none 0 0] 29))=W:=⟨_,rfl⟩
 have hb_W0:Below w.heap.size w W0:=by rw [←hW0];exact ((((Below.refl _ _).alloc (Kaq _) _).alloc (by simp <;> omega) _).alloc (by simp <;> omega) _)
 have HB:=Q02 hb_W0;clear hb_W0
 have zz:w.heap.size < W0.heap.size:=by rw [←hW0];simp <;> omega
 obtain ⟨z0,z1,z2⟩:=alc3v0v3 hW0
 have zu:w.heap.size+1 < W0.heap.size:=by rw [←hW0];simp <;> omega
 obtain ⟨u0,u1,u2⟩:=alc3v1v3 hW0
 have zr:w.heap.size+1+1 < W0.heap.size:=by rw [←hW0];simp
 obtain ⟨r0,r1,r2⟩:=alc3v2v3 hW0;obtain ⟨fr0,fr1,fr2⟩:=alf3v2v3 hW0;have hzr:=zr;have HFR:=Q02 (Q7f key o c l oR cR lll lll.length rfl W0 ((r.kept HB.out (Kaq _)).le HB.out.size) (RiR.mon.go (RiR.stp.go (RcR.ri rr) (Stp.of (lo:=0) (hi:=0) HB.out) (.inl (Kcq _))) (Kaq _) HB.out.size) HFIT.out)
 have HDE:=Q02 (fun W=> Q4j k i g W)
 have HRL:=Q02 r;clear r rr;have hw0:=HB.out.size
 cases hp:Q21 ⟨key,l,lll⟩ with
 |false=>
  rw [hp] at HPM HPF
  go_enter Tryz.func123,Tryz.ntmps123
  go_wp2_with fail
  refine HFR.out.mono ?_
  rintro e v1 ⟨vP,rfl,_,h2,hb⟩
  have e2:=h2 hp;subst e2
  rw [hp]
  clear h2;replace z0:=bC hb z0 zz;replace z1:=bC hb z1 zz;replace z2:=bC hb z2 zz;replace zz:=Kbq zz hb.size;replace u0:=bC hb u0 zu;replace u1:=bC hb u1 zu;replace u2:=bC hb u2 zu;replace zu:=Kbq zu hb.size;replace r0:=bC hb r0 zr;replace r1:=bC hb r1 zr;replace r2:=bC hb r2 zr;replace fr0:=bF hb fr0 zr;replace fr1:=bF hb fr1 zr;replace fr2:=bF hb fr2 zr;replace zr:=Kbq zr hb.size;replace HB:=Q02 (HB.out.trans (hb.mono HB.out.size));clear hb;have hb1:Below v1.heap.size v1 (v1.alloc (.cells #[.int .i64 0,.slice none 0 0,.slice none 0 0] 127)):=(Below.refl _ _).alloc (Kaq _) _
  replace z0:=bC hb1 z0 zz;replace z1:=bC hb1 z1 zz;replace z2:=bC hb1 z2 zz;replace zz:=Kbq zz hb1.size;replace u0:=bC hb1 u0 zu;replace u1:=bC hb1 u1 zu;replace u2:=bC hb1 u2 zu;replace zu:=Kbq zu hb1.size;replace r0:=bC hb1 r0 zr;replace r1:=bC hb1 r1 zr;replace r2:=bC hb1 r2 zr;replace fr0:=bF hb1 fr0 zr;replace fr1:=bF hb1 fr1 zr;replace fr2:=bF hb1 fr2 zr;replace zr:=Kbq zr hb1.size;replace HB:=Q02 (HB.out.trans (hb1.mono HB.out.size));clear hb1;generalize Q0E k i g=ck at *
  go_wp2_with fail
  refine (HDE.out _).mono ?_
  rintro e v2 ⟨rfl,hb⟩
  replace z0:=bC hb z0 zz;replace z1:=bC hb z1 zz;replace z2:=bC hb z2 zz;replace zz:=Kbq zz hb.size;replace u0:=bC hb u0 zu;replace u1:=bC hb u1 zu;replace u2:=bC hb u2 zu;replace zu:=Kbq zu hb.size;replace r0:=bC hb r0 zr;replace r1:=bC hb r1 zr;replace r2:=bC hb r2 zr;replace fr0:=bF hb fr0 zr;replace fr1:=bF hb fr1 zr;replace fr2:=bF hb fr2 zr;replace zr:=Kbq zr hb.size;replace HB:=Q02 (HB.out.trans (hb.mono HB.out.size));clear hb;generalize (if ck=true then Q84 k i g else .nilIface)=dv
  go_wp2
  refine bodyPost_ret (v:=.tuple #[plv 0 (.slice none 0 0) (.slice none 0 0),.bool false]) (by simp [results,Tryz.results123,go_sem,r0,r1,r2]) rfl ⟨plv 0 (.slice none 0 0) (.slice none 0 0),by rw [HPF.out];simp, ?_,Q0u HB.out (by omega) _ _ _⟩
  rw [HPM.out,if_neg (by simp)]
  exact Q90 _ _ _ (Q0u HB.out (show w.heap.size≤w.heap.size+1+1 by omega) _ _ _).size
 |true=>
  obtain ⟨hk,hbo,h1n,h3n,hto⟩:=HFA.out hp
  dsimp only at hk hbo h1n h3n hto
  have HK:=Q02 hk;have HBK:=Q02 hbo;have HTO:=Q02 hto;have hl6:=Q3W hbo;clear hk hbo hto HFA
  rw [hp] at HPM HPF
  have HP:=Q02 hp;clear hp
  cases hc:Q0E k i g with
  |false=>
   rw [hc] at HDE HPM HPF
   simp only [Bool.false_eq_true,if_false] at HDE
   go_enter Tryz.func123,Tryz.ntmps123
   go_wp2_with fail
   refine HFR.out.mono ?_
   rintro e v1 ⟨vP,rfl,h1,_,hb⟩
   obtain ⟨o2,c2,e2,ow2⟩:=h1 HP.out
   dsimp only at e2 ow2
   subst e2
   rw [HP.out]
   have HOW:=Q02 ow2;have hs1:=hb.size;have HRM:=Q02 (Q5b ow2);clear h1 ow2
   have HLM:=Q02 (show (lll.map Q2P).length=lll.length by simp)
   obtain ⟨n,hn⟩:∃n,lll.length=n:=⟨_,rfl⟩
   rw [hn] at HOW HLM ⊢
   have HN:=Q02 hn;clear hn;replace z0:=bC hb z0 zz;replace z1:=bC hb z1 zz;replace z2:=bC hb z2 zz;replace zz:=Kbq zz hb.size;replace u0:=bC hb u0 zu;replace u1:=bC hb u1 zu;replace u2:=bC hb u2 zu;replace zu:=Kbq zu hb.size;replace r0:=bC hb r0 zr;replace r1:=bC hb r1 zr;replace r2:=bC hb r2 zr;replace fr0:=bF hb fr0 zr;replace fr1:=bF hb fr1 zr;replace fr2:=bF hb fr2 zr;replace zr:=Kbq zr hb.size;replace HB:=Q02 (HB.out.trans (hb.mono HB.out.size));clear hb;obtain ⟨W1,hW1⟩:∃W,(v1.alloc (.cells #[.int .i64 key,.slice o l.length c,.slice o2 n c2] 127))=W:=⟨_,rfl⟩
   have hb_W1:Below v1.heap.size v1 W1:=by rw [←hW1];exact ((Below.refl _ _).alloc (Kaq _) _)
   replace z0:=bC hb_W1 z0 zz;replace z1:=bC hb_W1 z1 zz;replace z2:=bC hb_W1 z2 zz;replace zz:=Kbq zz hb_W1.size;replace u0:=bC hb_W1 u0 zu;replace u1:=bC hb_W1 u1 zu;replace u2:=bC hb_W1 u2 zu;replace zu:=Kbq zu hb_W1.size;replace r0:=bC hb_W1 r0 zr;replace r1:=bC hb_W1 r1 zr;replace r2:=bC hb_W1 r2 zr;replace fr0:=bF hb_W1 fr0 zr;replace fr1:=bF hb_W1 fr1 zr;replace fr2:=bF hb_W1 fr2 zr;replace zr:=Kbq zr hb_W1.size;replace HOW:=Q02 (Q03 HOW.out hb_W1);replace HB:=Q02 (HB.out.trans (hb_W1.mono HB.out.size));clear hb_W1
   have zx:v1.heap.size < W1.heap.size:=by rw [←hW1];simp
   obtain ⟨x0,x1,x2⟩:=alc3v0v1 hW1;have hsW1:=zx
   go_wp2_with fail
   refine (HDE.out W1).mono ?_
   rintro e v2 ⟨rfl,hb⟩
   have hs2:=hb.size;replace z0:=bC hb z0 zz;replace z1:=bC hb z1 zz;replace z2:=bC hb z2 zz;replace zz:=Kbq zz hb.size;replace u0:=bC hb u0 zu;replace u1:=bC hb u1 zu;replace u2:=bC hb u2 zu;replace zu:=Kbq zu hb.size;replace r0:=bC hb r0 zr;replace r1:=bC hb r1 zr;replace r2:=bC hb r2 zr;replace fr0:=bF hb fr0 zr;replace fr1:=bF hb fr1 zr;replace fr2:=bF hb fr2 zr;replace zr:=Kbq zr hb.size;replace x0:=bC hb x0 zx;replace x1:=bC hb x1 zx;replace x2:=bC hb x2 zx;replace zx:=Kbq zx hb.size;replace HOW:=Q02 (Q03 HOW.out hb);replace HB:=Q02 (HB.out.trans (hb.mono HB.out.size));clear hb
   go_wp2
   refine bodyPost_ret (v:=.tuple #[plv 0 (.slice none 0 0) (.slice none 0 0),.bool false]) (by simp [results,Tryz.results123,go_sem,r0,r1,r2]) rfl ⟨plv 0 (.slice none 0 0) (.slice none 0 0),by rw [HPF.out];simp, ?_,Q0u HB.out (by omega) _ _ _⟩
   rw [HPM.out,if_neg (by simp)]
   exact Q90 _ _ _ (Q0u HB.out (show w.heap.size≤w.heap.size+1+1 by omega) _ _ _).size
  |true=>
   have HBA:=Q02 (fun W h1=> Q32 o c l k i g W h1 hnil (by omega) hc)
   have HDO:=Q02 (fun l' h=> Q80 HBK.out hc h (m:=l'))
   rw [hc] at HDE HPM HPF
   simp only [if_true] at HDE
   clear hc;generalize Q84 k i g=dv at *
   go_enter Tryz.func123,Tryz.ntmps123
   go_wp2_with fail
   refine HFR.out.mono ?_
   rintro e v1 ⟨vP,rfl,h1,_,hb⟩
   obtain ⟨o2,c2,e2,ow2⟩:=h1 HP.out
   dsimp only at e2 ow2
   subst e2
   rw [HP.out]
   have HOW:=Q02 ow2;have hs1:=hb.size;have HRM:=Q02 (Q5b ow2);clear h1 ow2
   have HLM:=Q02 (show (lll.map Q2P).length=lll.length by simp)
   obtain ⟨n,hn⟩:∃n,lll.length=n:=⟨_,rfl⟩
   rw [hn] at HOW HLM ⊢
   have HN:=Q02 hn;clear hn;replace z0:=bC hb z0 zz;replace z1:=bC hb z1 zz;replace z2:=bC hb z2 zz;replace zz:=Kbq zz hb.size;replace u0:=bC hb u0 zu;replace u1:=bC hb u1 zu;replace u2:=bC hb u2 zu;replace zu:=Kbq zu hb.size;replace r0:=bC hb r0 zr;replace r1:=bC hb r1 zr;replace r2:=bC hb r2 zr;replace fr0:=bF hb fr0 zr;replace fr1:=bF hb fr1 zr;replace fr2:=bF hb fr2 zr;replace zr:=Kbq zr hb.size;replace HB:=Q02 (HB.out.trans (hb.mono HB.out.size));clear hb;obtain ⟨W1,hW1⟩:∃W,(v1.alloc (.cells #[.int .i64 key,.slice o l.length c,.slice o2 n c2] 127))=W:=⟨_,rfl⟩
   have hb_W1:Below v1.heap.size v1 W1:=by rw [←hW1];exact ((Below.refl _ _).alloc (Kaq _) _)
   replace z0:=bC hb_W1 z0 zz;replace z1:=bC hb_W1 z1 zz;replace z2:=bC hb_W1 z2 zz;replace zz:=Kbq zz hb_W1.size;replace u0:=bC hb_W1 u0 zu;replace u1:=bC hb_W1 u1 zu;replace u2:=bC hb_W1 u2 zu;replace zu:=Kbq zu hb_W1.size;replace r0:=bC hb_W1 r0 zr;replace r1:=bC hb_W1 r1 zr;replace r2:=bC hb_W1 r2 zr;replace fr0:=bF hb_W1 fr0 zr;replace fr1:=bF hb_W1 fr1 zr;replace fr2:=bF hb_W1 fr2 zr;replace zr:=Kbq zr hb_W1.size;replace HOW:=Q02 (Q03 HOW.out hb_W1);replace HB:=Q02 (HB.out.trans (hb_W1.mono HB.out.size));clear hb_W1
   have zx:v1.heap.size < W1.heap.size:=by rw [←hW1];simp
   obtain ⟨x0,x1,x2⟩:=alc3v0v1 hW1;have hsW1:=zx
   go_wp2_with fail
   refine (HDE.out W1).mono ?_
   rintro e v2 ⟨rfl,hb⟩
   have hs2:=hb.size;replace z0:=bC hb z0 zz;replace z1:=bC hb z1 zz;replace z2:=bC hb z2 zz;replace zz:=Kbq zz hb.size;replace u0:=bC hb u0 zu;replace u1:=bC hb u1 zu;replace u2:=bC hb u2 zu;replace zu:=Kbq zu hb.size;replace r0:=bC hb r0 zr;replace r1:=bC hb r1 zr;replace r2:=bC hb r2 zr;replace fr0:=bF hb fr0 zr;replace fr1:=bF hb fr1 zr;replace fr2:=bF hb fr2 zr;replace zr:=Kbq zr hb.size;replace x0:=bC hb x0 zx;replace x1:=bC hb x1 zx;replace x2:=bC hb x2 zx;replace zx:=Kbq zx hb.size;replace HOW:=Q02 (Q03 HOW.out hb);replace HB:=Q02 (HB.out.trans (hb.mono HB.out.size));clear hb
   have HA2:=Q02 (HBA.out v2 ((HRL.out.kept HB.out (Kaq _)).le HB.out.size))
   cases hdo:doL l k i g with
   |none=>
    rw [hdo] at HA2 HPM HPF
    simp only [Option.isSome_none] at HA2
    clear hdo
    go_wp2_with fail
    refine (HA2.out).mono ?_
    rintro e v3 ⟨v5,rfl,_,hb⟩
    have hs3:=hb.size
    skip
    replace z0:=bC hb z0 zz;replace z1:=bC hb z1 zz;replace z2:=bC hb z2 zz;replace zz:=Kbq zz hb.size;replace u0:=bC hb u0 zu;replace u1:=bC hb u1 zu;replace u2:=bC hb u2 zu;replace zu:=Kbq zu hb.size;replace r0:=bC hb r0 zr;replace r1:=bC hb r1 zr;replace r2:=bC hb r2 zr;replace fr0:=bF hb fr0 zr;replace fr1:=bF hb fr1 zr;replace fr2:=bF hb fr2 zr;replace zr:=Kbq zr hb.size;replace x0:=bC hb x0 zx;replace x1:=bC hb x1 zx;replace x2:=bC hb x2 zx;replace zx:=Kbq zx hb.size;replace HOW:=Q02 (Q03 HOW.out hb);replace HB:=Q02 (HB.out.trans (hb.mono HB.out.size));clear hb
    have HPL:=Q02 (Q4U key o c l o2 c2 (lll.map Q2P) v3 ((HRL.out.kept HB.out (Kaq _)).le HB.out.size) hnil hf1 (ownL.rds (L:=Q1T) HOW.out) (by rw [HLM.out];have:=HN.out;omega))
    rw [Q9c HTO.out,HLM.out] at HPL
    go_wp2_with fail
    refine (HPL.out).mono ?_
    rintro e v4 ⟨v9,rfl,hin,hb⟩
    have HIN:=Q02 hin;have hs4:=hb.size;clear hin;obtain ⟨o9,c9,oR9,cR9,e9⟩:∃(o9:Option Addr) (c9:Nat) (oR9:Option Addr) (cR9:Nat),v9=plv key (.slice o9 l.length c9) (.slice oR9 lll.length cR9):=HIN.out.opn;subst e9;replace z0:=bC hb z0 zz;replace z1:=bC hb z1 zz;replace z2:=bC hb z2 zz;replace zz:=Kbq zz hb.size;replace u0:=bC hb u0 zu;replace u1:=bC hb u1 zu;replace u2:=bC hb u2 zu;replace zu:=Kbq zu hb.size;replace r0:=bC hb r0 zr;replace r1:=bC hb r1 zr;replace r2:=bC hb r2 zr;replace fr0:=bF hb fr0 zr;replace fr1:=bF hb fr1 zr;replace fr2:=bF hb fr2 zr;replace zr:=Kbq zr hb.size
    replace x0:=bC hb x0 zx;replace x1:=bC hb x1 zx;replace x2:=bC hb x2 zx;replace zx:=Kbq zx hb.size;replace HOW:=Q02 (Q03 HOW.out hb);replace HB:=Q02 (HB.out.trans (hb.mono HB.out.size));clear hb
    go_wp2
    refine bodyPost_ret (v:=.tuple #[plv key (.slice o9 l.length c9) (.slice oR9 lll.length cR9),.bool false]) (by simp [results,Tryz.results123,go_sem,r0,r1,r2]) rfl ⟨plv key (.slice o9 l.length c9) (.slice oR9 lll.length cR9),by rw [HPF.out];simp, ?_,Q0u HB.out (by omega) _ _ _⟩
    rw [HPM.out,if_pos (by simp),Q2B]
    exact InPm.mono (HIN.out.step (Q30 v4 (w.heap.size+1+1) _ _ _) (.inl (by omega))) (by omega)
   |some mm=>
    have HOKM:=Q02 (HDO.out mm hdo)
    rw [hdo] at HA2 HPM HPF
    simp only [Option.isSome_some] at HA2
    dsimp only at HPM
    clear hdo HDO HBA
    go_wp2_with fail
    refine (HA2.out).mono ?_
    rintro e v3 ⟨v5,rfl,hown5,hb⟩
    have hs3:=hb.size;have ow5:=hown5 mm rfl;obtain ⟨o5,c5,e5,_⟩:=ownL.open (L:=Q12) ow5;subst e5;have HO5:=Q02 ow5;clear hown5 ow5;replace z0:=bC hb z0 zz;replace z1:=bC hb z1 zz;replace z2:=bC hb z2 zz;replace zz:=Kbq zz hb.size;replace u0:=bC hb u0 zu;replace u1:=bC hb u1 zu;replace u2:=bC hb u2 zu;replace zu:=Kbq zu hb.size;replace r0:=bC hb r0 zr;replace r1:=bC hb r1 zr;replace r2:=bC hb r2 zr;replace fr0:=bF hb fr0 zr;replace fr1:=bF hb fr1 zr;replace fr2:=bF hb fr2 zr;replace zr:=Kbq zr hb.size;replace x0:=bC hb x0 zx;replace x1:=bC hb x1 zx;replace x2:=bC hb x2 zx
    replace zx:=Kbq zx hb.size;replace HOW:=Q02 (Q03 HOW.out hb);replace HB:=Q02 (HB.out.trans (hb.mono HB.out.size));clear hb;have hm6:=Q3W HOKM.out
    have HWI:=Q02 (Q8C key o l.length c o2 c2 o5 c5 mm v3 (lll.map Q2P) (by rw [HLM.out];have:=HN.out;omega) (ownL.rds (L:=Q1T) HOW.out) HRM.out.1 HRM.out.2 (ownL.rds (L:=Q12) HO5.out) (by omega) HK.out HOKM.out)
    rw [HLM.out] at HWI
    go_wp2_with fail
    refine (HWI.out).mono ?_
    rintro e v6 ⟨o7,c7,rfl,ow7,hb⟩
    have hs6:=hb.size;have HO7:=Q02 ow7;clear ow7;replace z0:=bC hb z0 zz;replace z1:=bC hb z1 zz;replace z2:=bC hb z2 zz;replace zz:=Kbq zz hb.size;replace u0:=bC hb u0 zu;replace u1:=bC hb u1 zu;replace u2:=bC hb u2 zu;replace zu:=Kbq zu hb.size;replace r0:=bC hb r0 zr;replace r1:=bC hb r1 zr;replace r2:=bC hb r2 zr;replace fr0:=bF hb fr0 zr;replace fr1:=bF hb fr1 zr;replace fr2:=bF hb fr2 zr;replace zr:=Kbq zr hb.size;replace x0:=bC hb x0 zx;replace x1:=bC hb x1 zx;replace x2:=bC hb x2 zx;replace zx:=Kbq zx hb.size;replace HOW:=Q02 (Q03 HOW.out hb);replace HO5:=Q02 (Q03 HO5.out hb)
    replace HB:=Q02 (HB.out.trans (hb.mono HB.out.size));clear hb
    have HPL:=Q02 (Q4U key o5 c5 mm o7 c7 (Q2r key mm::(lll.map Q2P).take 2) v6 (ownL.rds (L:=Q12) HO5.out) (Q54 HO5.out) (by omega) (ownL.rds (L:=Q1T) HO7.out) (by simp;omega))
    rw [Qes HOKM.out HTO.out] at HPL
    obtain ⟨nq,hnq⟩:∃q,(Q2r key mm::(lll.map Q2P).take 2).length=q:=⟨_,rfl⟩
    rw [hnq] at HPL ⊢
    obtain ⟨rg,hrg⟩:∃q,(Q2Q key mm::lll).take 3=q:=⟨_,rfl⟩
    rw [hrg] at HPL HPM
    clear hnq hrg
    go_wp2_with fail
    refine (HPL.out).mono ?_
    rintro e v7 ⟨v9,rfl,hin,hb⟩
    have HIN:=Q02 hin;have hs7:=hb.size;clear hin;obtain ⟨o9,c9,oR9,cR9,e9⟩:∃(o9:Option Addr) (c9:Nat) (oR9:Option Addr) (cR9:Nat),v9=plv key (.slice o9 mm.length c9) (.slice oR9 rg.length cR9):=HIN.out.opn;subst e9;replace z0:=bC hb z0 zz;replace z1:=bC hb z1 zz;replace z2:=bC hb z2 zz;replace zz:=Kbq zz hb.size;replace u0:=bC hb u0 zu;replace u1:=bC hb u1 zu;replace u2:=bC hb u2 zu;replace zu:=Kbq zu hb.size;replace r0:=bC hb r0 zr;replace r1:=bC hb r1 zr;replace r2:=bC hb r2 zr;replace fr0:=bF hb fr0 zr;replace fr1:=bF hb fr1 zr;replace fr2:=bF hb fr2 zr;replace zr:=Kbq zr hb.size
    replace x0:=bC hb x0 zx;replace x1:=bC hb x1 zx;replace x2:=bC hb x2 zx;replace zx:=Kbq zx hb.size;replace HOW:=Q02 (Q03 HOW.out hb);replace HO5:=Q02 (Q03 HO5.out hb);replace HB:=Q02 (HB.out.trans (hb.mono HB.out.size));clear hb
    go_wp2
    refine bodyPost_ret (v:=.tuple #[plv key (.slice o9 mm.length c9) (.slice oR9 rg.length cR9),.bool true]) (by simp [results,Tryz.results123,go_sem,r0,r1,r2]) rfl ⟨plv key (.slice o9 mm.length c9) (.slice oR9 rg.length cR9),by rw [HPF.out];simp, ?_,Q0u HB.out (by omega) _ _ _⟩
    rw [HPM.out,if_pos (by simp),Q2B]
    exact InPm.mono (HIN.out.step (Q30 v7 (w.heap.size+1+1) _ _ _) (.inl (by omega))) (by omega)
theorem InPm.stps:Stps InPm:=⟨fun h s hd=> InPm.step h s hd⟩
theorem Q0b {W:World} {B:Nat} {c:Array Value} {t:TypeId} (h:W.heap[B]? =some (.cells c t (0,0))) (j:Nat) (u:Value) (hj:c[j]? =some u):W.cell? ⟨B,j,none⟩=some u:=Q00 h j u hj
theorem Qid {P:Nat→Nat→World→Value→Pm→Prop} (hP:Stps P) {cur W:World} {B lo hi:Nat} {f:Value} {mr:Pm} {o oR:Option Addr} {c cR:Nat} {z0 z1 z2:Value} (hZ:W.heap[B]? =some (.cells #[z0,z1,z2] 29 (0,0))) (hx:Below cur.heap.size cur W) (hB:cur.heap.size≤B) (hi':P lo hi W (plv mr.key (.slice o mr.l.length c) (.slice oR mr.ring.length cR)) mr) (h1:cur.heap.size≤lo) (h2:hi≤W.heap.size) (h3:B < lo∨hi≤B):
  ∃B' lo hi o' c' oR' cR',Value.pointer (some ⟨B,0,none⟩)=.pointer (some ⟨B',0,none⟩)∧f=f∧Hid ((setP W B (.int .i64 mr.key) (.slice o mr.l.length c) (.slice oR mr.ring.length cR)).heap[B']? =some (.cells #[.int .i64 mr.key,.slice o' mr.l.length c',.slice oR' mr.ring.length cR'] 29 (0,0)))∧Hid (Below cur.heap.size cur (setP W B (.int .i64 mr.key) (.slice o mr.l.length c) (.slice oR mr.ring.length cR)))∧cur.heap.size≤B'∧B' < (setP W B (.int .i64 mr.key) (.slice o mr.l.length c) (.slice oR mr.ring.length cR)).heap.size∧Hid (P lo hi (setP W B (.int .i64 mr.key) (.slice o mr.l.length c) (.slice oR mr.ring.length cR)) (plv mr.key (.slice o' mr.l.length c') (.slice oR' mr.ring.length cR')) mr)∧cur.heap.size≤lo∧hi≤(setP W B (.int .i64 mr.key) (.slice o mr.l.length c) (.slice oR mr.ring.length cR)).heap.size∧(B' < lo∨hi≤B'):=by
 have b1:=Q06 hZ 0 (.int .i64 mr.key);have b2:=Q06 b1 1 (.slice o mr.l.length c);have b3:=Q06 b2 2 (.slice oR mr.ring.length cR)
 exact ⟨B,lo,hi,o,c,oR,cR,rfl,rfl,b3,Q0u hx hB _ _ _,hB,(Array.getElem?_eq_some_iff.1 b3).1,hP.go hi' (Q30 W B _ _ _) (by omega),h1,by rw [Q2B];exact h2,h3⟩
theorem QhU {P:Nat→Nat→World→Value→Pm→Prop} (hP:Stps P) {cur W:World} {lo hi:Nat} {f:Value} {mr:Pm} {o oR:Option Addr} {c cR:Nat} (hx:Below cur.heap.size cur W) (hi':P lo hi W (plv mr.key (.slice o mr.l.length c) (.slice oR mr.ring.length cR)) mr) (h1:cur.heap.size≤lo) (h2:hi≤W.heap.size):
  ∃B' lo hi o' c' oR' cR',Value.pointer (some ⟨W.heap.size,0,none⟩)=.pointer (some ⟨B',0,none⟩)∧f=f∧Hid ((W.alloc (.cells #[.int .i64 mr.key,.slice o mr.l.length c,.slice oR mr.ring.length cR] 29)).heap[B']? =some (.cells #[.int .i64 mr.key,.slice o' mr.l.length c',.slice oR' mr.ring.length cR'] 29 (0,0)))∧Hid (Below cur.heap.size cur (W.alloc (.cells #[.int .i64 mr.key,.slice o mr.l.length c,.slice oR mr.ring.length cR] 29)))∧cur.heap.size≤B'∧B' < (W.alloc (.cells #[.int .i64 mr.key,.slice o mr.l.length c,.slice oR mr.ring.length cR] 29)).heap.size∧Hid (P lo hi (W.alloc (.cells #[.int .i64 mr.key,.slice o mr.l.length c,.slice oR mr.ring.length cR] 29)) (plv mr.key (.slice o' mr.l.length c') (.slice oR' mr.ring.length cR')) mr)∧cur.heap.size≤lo∧hi≤(W.alloc (.cells #[.int .i64 mr.key,.slice o mr.l.length c,.slice oR mr.ring.length cR] 29)).heap.size∧(B' < lo∨hi≤B'):=
 ⟨W.heap.size,lo,hi,o,c,oR,cR,rfl,rfl,World.alloc_heap_new W _,hx.alloc hx.size _,hx.size,by simp,hP.go hi' (Stp.of (lo:=0) (hi:=0) ((Below.refl _ _).alloc (Kaq _) _)) (.inl (Kcq _)),h1,by simp;omega,.inr h2⟩
theorem Qba {cs:List Cd} {a i g:Int} {m:List Bk} (hr:(Q1c cs cs.length).isSome=true) (hok:Q0E a i g=true) (hd:doL (Q0e cs cs.length) a i g=some m):(Q1c (cs++[(a,i,g)]) (cs++[(a,i,g)]).length).isSome=true:=by
 obtain ⟨l,hl⟩:=Option.isSome_iff_exists.1 hr
 have e1:Q0e cs cs.length=l:=by unfold Q0e;rw [hl];rfl
 rw [e1] at hd
 have e2:Q1c (cs++[(a,i,g)]) (cs++[(a,i,g)]).length=Q6b (Q1c cs cs.length) (a,i,g):=by
  unfold Q1c
  rw [List.take_length,List.take_length,List.foldl_append]
  rfl
 rw [e2,hl]
 unfold Q6b
 simp [hok,hd]
theorem Qd8 {cs:List Cd} {c:Cd}:∀q,q≤cs.length→Q1c (cs++[c]) q=Q1c cs q:=fun q h=> by
 unfold Q1c
 rw [List.take_append_of_le_length h]
theorem QaY {cs:List Cd} {c:Cd}:∀q,q≤cs.length→Q1f (cs++[c]) q=Q1f cs q
 |0,_=> rfl
 |q+1,h=> by
  unfold Q1f
  rw [QaY q (by omega)]
  unfold Q0e
  rw [Qd8 (q+1) h]
theorem Qdc (cs:List Cd):∀q,(Q1f cs q).getD 0 []=Q0e cs q
 |0=> rfl
 |q+1=> by unfold Q1f;simp
theorem Q9L {key safe:Int} {cs:List Cd} (h:Q0p key cs safe=true):∀q,q≤cs.length→∀l∈Q1f cs q,Q0a l=true
 |0,_,l,hl=> by
  have:l=[]:=by simpa [Q1f] using hl
  subst this
  exact (Q2J h 0 (by omega)).1
 |q+1,hq,l,hl=> by
  unfold Q1f at hl
  have hl:=List.mem_of_mem_take hl
  rcases List.mem_cons.1 hl with e|hl
  ·rw [e];exact (Q2J h (q+1) (by omega)).1
  ·exact Q9L h q (by omega) l hl
theorem QeZ (cs:List Cd):∀q,1≤(Q1f cs q).length
 |0=> by simp [Q1f]
 |q+1=> by unfold Q1f;simp
theorem Q3F {m:Jm} (h:Q0p m.key m.l m.safe=true):Q21 (Q0I m)=true:=by
 have e:Q0I m=⟨m.key,Q0e m.l m.l.length,Q13 m.key (Q1f m.l m.l.length)⟩:=by unfold Q0I;rw [if_pos h]
 have hr:=Q6L m.l m.l.length;have hp:=QeZ m.l m.l.length
 have hlen:(Q13 m.key (Q1f m.l m.l.length)).length=(Q1f m.l m.l.length).length:=by simp [Q13]
 have hso:=(Q2J h m.l.length (by omega)).1
 rw [e]
 refine QcR (Q0Q h).1 hso (by dsimp only;omega) (by dsimp only;omega) (fun i hi=> ?_) ?_
 ·dsimp only at hi ⊢
  rw [Q2G _ _ _ (by omega)]
  refine Q9O m.key (Q9L h m.l.length (Kaq _) _ ?_)
  rw [List.getD_eq_getElem?_getD,List.getElem?_eq_getElem (by omega)]
  exact List.getElem_mem _
 ·dsimp only
  rw [Q2G _ _ _ (by omega),Qdc]
  unfold Q1s
  rw [if_pos ⟨Q1B _ _,Q1B _ _⟩]
  exact Q4f 8 (fun _ _=> rfl)
theorem Qbo {m:Jm} {a i g:Int} (h:Q3h m a i g=true):Q0p m.key m.l m.safe=true∧Q0p (Q3e m a i g).key (Q3e m a i g).l (Q3e m a i g).safe=true∧Qgz (Q0I m) a i g=true∧Q9k (Q0I m) a i g=Q0I (Q3e m a i g)∧(Q3e m a i g).safe=((Q3e m a i g).l.length:Int)∧1≤(Q0I (Q3e m a i g)).ring.length∧(∀j,j < (Q0I (Q3e m a i g)).ring.length→((Q0I (Q3e m a i g)).ring.getD j []).length=8):=by
 unfold Q3h at h
 rw [Bool.and_eq_true] at h
 obtain ⟨h1,h2⟩:=h
 have eM:Q3e m a i g=⟨m.key,m.l++[(a,i,g)],(m.l.length:Int)+1⟩:=by unfold Q3e;rw [if_pos h1,if_pos h2]
 unfold Qev at h1
 rw [Bool.and_eq_true] at h1
 obtain ⟨hj,hc⟩:=h1
 unfold Q7v at h2
 rw [Bool.and_eq_true] at h2
 obtain ⟨hd,h100⟩:=h2
 have hlt:m.l.length < 100:=by simpa using h100
 obtain ⟨l',hl'⟩:=Option.isSome_iff_exists.1 hd;have hf:=Q0Q hj;have hrun:=Qba (Q1O hj) hc hl'
 have hj2:Q0p m.key (m.l++[(a,i,g)]) ((m.l.length:Int)+1)=true:=by
  unfold Q0p
  simp only [Bool.and_eq_true,decide_eq_true_eq]
  refine ⟨⟨⟨⟨hf.1, ?_⟩, ?_⟩, ?_⟩,hrun⟩
  ·rw [List.length_append];simp;omega
  ·omega
  ·rw [List.length_append];simp
 have hs2:Q0e (m.l++[(a,i,g)]) (m.l.length+1)=l':=by
  have hr1:Q1c (m.l++[(a,i,g)]) (m.l.length+1)=Q6b (Q1c m.l m.l.length) (a,i,g):=by
   rw [Q37 (by simp),Qd8 _ (Kaq _)]
   congr 1
   simp
  obtain ⟨l0,hl0⟩:=Option.isSome_iff_exists.1 (Q1O hj)
  have e0:Q0e m.l m.l.length=l0:=by unfold Q0e;rw [hl0];rfl
  rw [e0] at hl'
  unfold Q0e
  rw [hr1,hl0]
  unfold Q6b
  simp [hc,hl']
 have eR:Q0I m=⟨m.key,Q0e m.l m.l.length,Q13 m.key (Q1f m.l m.l.length)⟩:=by unfold Q0I;rw [if_pos hj]
 have hlen2:(m.l++[(a,i,g)]).length=m.l.length+1:=by rw [List.length_append];rfl
 have eN:Q0I ⟨m.key,m.l++[(a,i,g)],(m.l.length:Int)+1⟩=⟨m.key,l',(Q2Q m.key l'::Q13 m.key (Q1f m.l m.l.length)).take 3⟩:=by
  unfold Q0I
  dsimp only
  rw [if_pos hj2,hlen2,hs2]
  congr 1
  show Q13 m.key (Q1f (m.l++[(a,i,g)]) (m.l.length+1))=_
  have e3:Q1f (m.l++[(a,i,g)]) (m.l.length+1)=(Q0e (m.l++[(a,i,g)]) (m.l.length+1)::Q1f (m.l++[(a,i,g)]) m.l.length).take 3:=rfl
  rw [e3,hs2,QaY _ (Kaq _)]
  unfold Q13
  rw [List.map_take,List.map_cons]
 have hpp:=Q3F hj
 have hF:Qgz (Q0I m) a i g=true:=by
  unfold Qgz
  rw [hpp,hc,eR]
  dsimp only
  rw [hl']
  rfl
 rw [eM]
 refine ⟨hj,hj2,hF, ?_, ?_, ?_⟩
 ·rw [eN]
  unfold Q9k
  rw [if_pos (by rw [hpp,hc];rfl),eR]
  dsimp only
  rw [hl']
 ·dsimp only;rw [hlen2];simp
 ·have hq:=Q3F (m:=⟨m.key,m.l++[(a,i,g)],(m.l.length:Int)+1⟩) hj2
  obtain ⟨_,_,f3,_,f5⟩:=Q1q hq
  exact ⟨f3,fun j hj=> (Q6v (f5 j hj)).1⟩
def Q6U (out:List Int) (x:Int):List Int:=if out.contains x=true then out else out++[x]
def Q2K (out l:List Int):List Int:=l.foldl Q6U out
def Q2h (R:List (List (List Int))) (b:Nat):List Int:=R.foldl (fun out t=> Q2K out (t.getD b [])) []
def Qee (m:Pm) (b:Int):List Int:=if (Q21 m && decide (0≤b) && decide (b < 8))=true then Q2h m.ring b.toNat else []
theorem QaE (out l:List Int) (k:Nat) (h:k < l.length):Q2K out (l.take (k+1))=Q6U (Q2K out (l.take k)) (l.getD k 0):=by
 unfold Q2K
 rw [List.take_succ_eq_append_getElem h,List.foldl_append,List.getD_eq_getElem?_getD,List.getElem?_eq_getElem h]
 rfl
theorem Qcd (R:List (List (List Int))) (b i:Nat) (h:i < R.length):Q2h (R.take (i+1)) b=Q2K (Q2h (R.take i) b) ((R.getD i []).getD b []):=by
 unfold Q2h
 rw [List.take_succ_eq_append_getElem h,List.foldl_append,List.getD_eq_getElem?_getD (l:=R),List.getElem?_eq_getElem h]
 rfl
theorem Qer {l:List Int} {k:Nat} {x:Int} (h:k < l.length) (e:l.getD k 0=x):l.contains x=true:=by
 rw [List.contains_iff_mem,←e,List.getD_eq_getElem?_getD,List.getElem?_eq_getElem h]
 exact List.getElem_mem h
theorem Qgc {l:List Int} {x:Int} (h:∀j,j < l.length→l.getD j 0≠x):l.contains x=false:=by
 rw [Bool.eq_false_iff]
 intro hc
 rw [List.contains_iff_mem] at hc
 obtain ⟨j,hj,e⟩:=List.getElem_of_mem hc
 exact h j hj (by rw [List.getD_eq_getElem?_getD,List.getElem?_eq_getElem hj];exact e)
theorem Qem {out:List Int} {x:Int} (h:out.contains x=true):Q6U out x=out:=by unfold Q6U;rw [if_pos h]
theorem Qf9 {out:List Int} {x:Int} (h:out.contains x=false):Q6U out x=out++[x]:=by unfold Q6U;rw [if_neg (by rw [h];decide)]
theorem Qdk {l:List Int} {x:Int} {k:Nat} (h:∀j,j < k→l.getD j 0≠x) (h2:l.getD k 0≠x):∀j,j < k+1→l.getD j 0≠x:=fun j hj=> by
 by_cases e:j=k
 ·subst e;exact h2
 ·exact h j (by omega)
theorem QgN {w:World} {x:Int} {T:TypeId}:RdL Q2e (w.alloc (.cells #[.int .i64 x] T)).heap.size (w.alloc (.cells #[.int .i64 x] T)) (some ⟨w.heap.size,0,none⟩) [x]:=
 .inr ⟨w.heap.size,0,rfl,by simp,fun i hi j hj=> by
  have e1:i=0:=by simpa using hi
  subst e1
  match j,hj with
  |0,_=> simp [Q2e]⟩
theorem QhG (o:Option Addr) (c:Nat) (l:List Int) (x:Int) (w:World) (hR:RdI w.heap.size w o l) (hl:l.length≤1048576):
  Calls Tryz.prog 104 #[.slice o l.length c,.int .i64 x] w fun e w'=> e=.returned (.bool (l.contains x))∧w'=w:=by
 go_enter Tryz.func104,Tryz.ntmps104
 go_wp2
 go_loopw [5] (fun i wr=> ∃k:Nat,k≤l.length∧i=.int .i64 k∧wr=w∧Hid (∀j,j < k→l.getD j 0≠x))
  (fun i _=> l.length - (intOf i).toNat)
 case atStart=> exact ⟨0,Kcq _,rfl,rfl,fun j h=> absurd h (Nat.not_lt_zero _)⟩
 case round=>
  obtain ⟨k,hk,rfl,rfl,HN⟩:=hrel
  by_cases hlt:k < l.length
  ·rcases hR with hR|⟨b,off,rfl,hb,hcell⟩
   ·subst hR;simp at hlt
   have hc:=RdL.int hcell k hlt;clear hcell
   have i1:(k:Int) < (l.length:Int):=by omega
   by_cases hx:l.getD k 0=x
   ·have HX:=Q02 (Qer hlt hx)
    rw [hx] at hc
    clear hx HN
    go_wp2
    go_ret
    exact ⟨by rw [HX.out];rfl,rfl⟩
   ·have HX:=Q02 (Qdk HN.out hx)
    obtain ⟨y,hy⟩:∃y,l.getD k 0=y:=⟨_,rfl⟩
    rw [hy] at hc hx
    clear hy HN
    go_wp2
    go_roundw
    case rel=> exact ⟨k+1,by omega,by go_num,by trivial,HX.out⟩
    case measure=> simp [intOf];omega
  ·have e:k=l.length:=by omega
   subst e;have HX:=Q02 (Qgc HN.out);clear HN
   go_wp2
   go_ret
   exact ⟨by rw [HX.out];rfl,rfl⟩
theorem Qe6 (o:Option Addr) (c:Nat) (l:List Int) (x:Int) (w:World) (hR:RdI w.heap.size w o l) (hl:l.length≤1048576):
  Calls Tryz.prog 176 #[.slice o l.length c,.int .i64 x] w fun e w'=> ∃r:Int,e=.returned (.int .i64 r)∧decide (0≤r)=l.contains x∧w'=w:=by
 go_enter Tryz.func176,Tryz.ntmps176
 go_wp2
 go_loopw [8] (fun i wr=> ∃k:Nat,k≤l.length∧i=.int .i64 k∧wr=w∧Hid (∀j,j < k→l.getD j 0≠x))
  (fun i _=> l.length - (intOf i).toNat)
 case atStart=> exact ⟨0,Kcq _,rfl,rfl,fun j h=> absurd h (Nat.not_lt_zero _)⟩
 case round=>
  obtain ⟨k,hk,rfl,rfl,HN⟩:=hrel
  by_cases hlt:k < l.length
  ·rcases hR with hR|⟨b,off,rfl,hb,hcell⟩
   ·subst hR;simp at hlt
   have hc:=RdL.int hcell k hlt;clear hcell
   have i1:(k:Int) < (l.length:Int):=by omega
   by_cases hx:l.getD k 0=x
   ·have HX:=Q02 (Qer hlt hx)
    rw [hx] at hc
    clear hx HN
    go_wp2
    go_ret
    exact ⟨(k:Int),rfl,by rw [HX.out];simp,rfl⟩
   ·have HX:=Q02 (Qdk HN.out hx)
    obtain ⟨y,hy⟩:∃y,l.getD k 0=y:=⟨_,rfl⟩
    rw [hy] at hc hx
    have hx':¬x=y:=fun e=> hx e.symm
    clear hy HN
    go_wp2
    go_roundw
    case rel=> exact ⟨k+1,by omega,by go_num,by trivial,HX.out⟩
    case measure=> simp [intOf];omega
  ·have e:k=l.length:=by omega
   subst e;have HX:=Q02 (Qgc HN.out);clear HN
   go_wp2
   go_ret
   exact ⟨-1,rfl,by rw [HX.out];rfl,rfl⟩
theorem Q9q (o:Option Addr) (c:Nat) (l:List Int) (x:Int) (w:World) (hR:RdI w.heap.size w o l) (hl:l.length≤1048576):
  Calls Tryz.prog 145 #[.slice o l.length c,.int .i64 x] w fun e w'=> e=.returned (.bool (l.contains x))∧w'=w:=by
 have HC:=Q02 (Qe6 o c l x w hR hl);clear hR
 go_enter Tryz.func145,Tryz.ntmps145
 go_wp2_with fail
 refine HC.out.mono ?_
 rintro e w1 ⟨r,rfl,hr,rfl⟩
 have HR:=Q02 hr;clear hr HC
 go_wp2
 go_ret
 exact ⟨by rw [←HR.out];rfl,rfl⟩
theorem Q47 {ll:List (List Int)} (h:Q1h ll=true):ll.length=8∧∀b,b < 8→Q0O (ll.getD b [])=true:=by
 unfold Q1h at h
 simp only [Bool.and_eq_true,decide_eq_true_eq,List.all_eq_true,List.mem_range] at h
 exact ⟨h.1,h.2⟩
structure JInv (k B R C:Nat) (w0 wr:World) (key:Int) (cs:List Cd) (o:Option Addr) (c:Nat):Prop where
 box:wr.heap[B]? =some (.cells #[.int .i64 key,.slice o cs.length c,.int .i64 0] 25 (0,0))
 res:wr.heap[R]? =some (.cells #[.int .i64 0,.slice none 0 0,.int .i64 0] 25 (0,0))
 own:Qbr wr C (.slice o cs.length c) cs
 dr:Dr k w0 wr
theorem JInv.draw {k B R C:Nat} {w0 wr x:World} {key:Int} {cs:List Cd} {o:Option Addr} {c:Nat} (h:JInv k B R C w0 wr key cs o c) (hc:isCur k x) (hg:wr.grownBy x (some k)) (hk:k < w0.heap.size) (hR:w0.heap.size≤R) (hB:R < B) (hC:B < C):JInv k B R C w0 x key cs o c:=
 ⟨Q09 hg (Array.getElem?_eq_some_iff.1 h.box).1 (by omega) h.box,Q09 hg (Array.getElem?_eq_some_iff.1 h.res).1 (by omega) h.res,Q3s h.own hg (by omega),h.dr.step hc hg⟩
theorem JInv.below {k B R C:Nat} {w0 wr x:World} {key:Int} {cs:List Cd} {o:Option Addr} {c:Nat} (h:JInv k B R C w0 wr key cs o c) (hb:Below wr.heap.size wr x) (hk:k < w0.heap.size):JInv k B R C w0 x key cs o c:=
 ⟨(hb.block _ (Array.getElem?_eq_some_iff.1 h.box).1).trans h.box,(hb.block _ (Array.getElem?_eq_some_iff.1 h.res).1).trans h.res,Q03 h.own hb,h.dr.below hk (hb.mono h.dr.gr.size)⟩
theorem Qdj (key:Int) (o:Option Addr) (cap:Nat) (l:List Bk) (oR:Option Addr) (cR:Nat) (hsR:List Hd) (k i g:Int) (w:World) (hk:Q1C key=true) (hl:Q0a l=true) (hc:Q0E k i g=true) (hlen:l.length≤100) (hR:RdK w.heap.size w o l) (hG:RdL Q0C w.heap.size w oR hsR) (hnR:oR=none→cR=0) (hR3:hsR.length≤3):
  Calls Tryz.prog 95 #[plv key (.slice o l.length cap) (.slice oR hsR.length cR),cmd k i g] w fun e w'=> ∃o2 n2 c2 oR2 n3 cR2,e=.returned (.tuple #[plv key (.slice o2 n2 c2) (.slice oR2 n3 cR2),.bool (doL l k i g).isSome])∧Below w.heap.size w w':=by
 cases hm:doL l k i g with
 |none=>
  refine (Qdw key o cap l oR hsR.length cR k i g w hl hm hlen hR).mono ?_
  rintro e w' ⟨rfl,hb⟩
  exact ⟨_,_,_,_,_,_,rfl,hb⟩
 |some m=>
  refine (Q88 key o cap l oR cR hsR k i g m w hk hl hc hm hlen hR hG hnR hR3).mono ?_
  rintro e w' ⟨o2,c2,oR2,n2,cR2,o3,c3,hs3,rfl,_,_,_,_,_,hb⟩
  exact ⟨_,_,_,_,_,_,rfl,hb⟩
theorem QeP (key:Int) (o:Option Addr) (cap:Nat) (cs:List Cd) (l:List Bk) (n:Nat) (hn:n=cs.length) (w:World) (hs:Q0e cs cs.length=l) (hR:RdC w.heap.size w o cs) (hk:Q1C key=true) (hl:cs.length≤100) (hrun:(Q1c cs cs.length).isSome=true):
  Calls Tryz.prog 43 #[.int .i64 key,.slice o n cap] w fun e w'=> ∃o1 c1 oR cR hs1,e=.returned (plv key (.slice o1 l.length c1) (.slice oR hs1.length cR))∧RdK w'.heap.size w' o1 l∧RdL Q0C w'.heap.size w' oR hs1∧(oR=none→cR=0)∧hs1.length≤3∧Below w.heap.size w w':=by
 subst hs hn
 refine (Q5Z key o cap cs w hR hk hl hrun).mono ?_
 rintro e w' ⟨o1,c1,oR,cR,hs1,rfl,h1,h2,_,h3,hb⟩
 exact ⟨o1,c1,oR,cR,hs1,rfl,ownL.rds (L:=Q12) h1,ownL.rds (L:=Q0C) h2,Qia h2,h3,hb⟩
theorem Qi4 {cur W:World} {B:Nat} {x y z f:Value} (hx:Below cur.heap.size cur W) (hB:cur.heap.size≤B):∃B',Value.pointer (some ⟨B,0,none⟩)=.pointer (some ⟨B',0,none⟩)∧f=f∧Hid (Below cur.heap.size cur (setP W B x y z)):=⟨B,rfl,rfl,Q0A hx hB _ _ _⟩
theorem QhY {cur W:World} {x y z f:Value} {T:TypeId} (hx:Below cur.heap.size cur W):∃B',Value.pointer (some ⟨W.heap.size,0,none⟩)=.pointer (some ⟨B',0,none⟩)∧f=f∧Hid (Below cur.heap.size cur (W.alloc (.cells #[x,y,z] T))):=⟨_,rfl,rfl,hx.alloc hx.size _⟩
theorem Qg2 {w new:World} {c:Array Value} {T:TypeId} (hb:Below (w.alloc (.cells c T)).heap.size (w.alloc (.cells c T)) new):new.heap[w.heap.size]? =some (.cells c T (0,0)):=
 (hb.block w.heap.size (by simp)).trans (World.alloc_heap_new w (.cells c T))
theorem QdP {w new:World} {c:Array Value} {T:TypeId} (hb:Below (w.alloc (.cells c T)).drew.heap.size (w.alloc (.cells c T)).drew new):new.heap[w.heap.size]? =some (.cells c T (0,0)):=
 (hb.block w.heap.size (by simp)).trans (World.alloc_heap_new w (.cells c T))
theorem Q6D (k:Nat) (w:World) (hc:isCur k w) (hk:k < w.heap.size):
  Calls Tryz.prog 133 #[.pointer (some ⟨k,0,none⟩)] w fun e w'=> ∃v m,e=.returned v∧InJm w.heap.size w'.heap.size w' v m∧Q0p m.key m.l m.safe=true∧m.l.length≤10∧Dr k w w':=by
 obtain ⟨W0,hW0⟩:∃W,w.alloc (.cells #[.int .i64 0,.slice none 0 0,.int .i64 0] 25)=W:=⟨_,rfl⟩
 have hb0:Below w.heap.size w W0:=by rw [←hW0];exact (Below.refl _ _).alloc (Kaq _) _
 have HD0:=Q02 (show Dr k w W0 from ⟨hc.below (hb0.mono hk),by rw [←hW0];exact Q0r w _ k⟩)
 have HR0:Hid (W0.heap[w.heap.size]? =some (.cells #[.int .i64 0,.slice none 0 0,.int .i64 0] 25 (0,0))):=by rw [←hW0];exact World.alloc_heap_new w _
 have hs0:w.heap.size < W0.heap.size:=by rw [←hW0];simp
 clear hb0 hc
 go_enter Tryz.func133,Tryz.ntmps133
 go_wp2_with fail
 refine (Q0m k 50 W0 HD0.out.cur (by decide) (by decide)).mono ?_
 rintro e w1 ⟨key,rfl,hk0,hk50,hc1,hg1⟩
 have HD1:=Q02 (HD0.out.step hc1 hg1)
 have HR1:=Q02 (Q09 hg1 hs0 (by omega) HR0.out)
 have hs1:w.heap.size < w1.heap.size:=Kbq hs0 hg1.size
 have HKEY:=Q02 (show Q1C key=true by unfold Q1C;simp;omega)
 clear hc1 hg1 HR0 HD0 hs0;have hb2:Below w1.heap.size w1 (w1.alloc (.cells #[.int .i64 key,.slice none 0 0,.int .i64 0] 25)):=(Below.refl _ _).alloc (Kaq _) _;have HX2:Hid ((w1.alloc (.cells #[.int .i64 key,.slice none 0 0,.int .i64 0] 25)).heap[w1.heap.size]? =some (.cells #[.int .i64 key,.slice none 0 0,.int .i64 0] 25 (0,0))):=World.alloc_heap_new w1 _;have HR2:=Q02 ((hb2.block _ hs1).trans HR1.out);have HD2:=Q02 (HD1.out.below hk (hb2.mono (Nat.le_of_lt hs1)))
 have hs2:w1.heap.size < ((w1.alloc (.cells #[.int .i64 key,.slice none 0 0,.int .i64 0] 25))).heap.size:=by simp
 have HO2:Hid (Qbr (w1.alloc (.cells #[.int .i64 key,.slice none 0 0,.int .i64 0] 25)) (w1.heap.size+1) (.slice none 0 0) []):=World.ownsRow_nil _ _ _ _
 have HSZ:Hid (((w1.alloc (.cells #[.int .i64 key,.slice none 0 0,.int .i64 0] 25))).heap.size=w1.heap.size+1):=by unfold Hid;simp
 clear hb2 HR1 HD1
 go_wp2_with fail
 generalize (w1.alloc (.cells #[.int .i64 key,.slice none 0 0,.int .i64 0] 25))=W2 at *
 refine (Q0m k 10 W2 HD2.out.cur (by decide) (by decide)).mono ?_
 rintro e w3 ⟨n',rfl,hn0,hn10,hc3,hg3⟩
 obtain ⟨n,rfl⟩:=Int.eq_ofNat_of_zero_le hn0;have HJ3:=Q02 (JInv.draw (C:=w1.heap.size+1) (⟨HX2.out,HR2.out,HO2.out,HD2.out⟩:JInv k w1.heap.size w.heap.size (w1.heap.size+1) w W2 key [] none 0) hc3 hg3 hk (Kaq _) hs1 (Nat.lt_succ_self _));clear hc3 hg3 HX2 HR2 HO2 HD2 hs2 HSZ;obtain ⟨B,hB⟩:∃B,w1.heap.size=B:=⟨_,rfl⟩
 simp only [hB] at HJ3 hs1 ⊢
 clear hB
 go_wp2
 go_loopw [5] (fun iv wr=> ∃(i:Nat) (cs:List Cd) (oJ:Option Addr) (cJ:Nat),i≤n∧iv=.int .i64 (i:Int)∧Hid (JInv k B w.heap.size (B+1) w wr key cs oJ cJ)∧cs.length≤i∧Hid ((Q1c cs cs.length).isSome=true))
  (fun iv _=> n - (intOf iv).toNat)
 case atStart=> exact ⟨0,[],none,0,Kcq _,rfl,HJ3.out,Kaq _,rfl⟩
 case round=>
  rename World=> wr
  obtain ⟨i,cs,oJ,cJ,hi',rfl,HJ,hcl,HRUN⟩:=hrel;clear HJ3;have HKL:=Q02 (HJ.out.dr.lt hk)
  by_cases hlt:i < n
  ·have hlt':(i:Int) < (n:Int):=by omega
   go_wp2_with fail
   refine (Q6R k wr HJ.out.dr.cur HKL.out).mono ?_
   rintro e x1 ⟨a,i2,g,rfl,hok,hd⟩
   have HOK:=Q02 hok;have HJ1:=Q02 (HJ.out.draw hd.cur hd.gr hk (Kaq _) hs1 (Nat.lt_succ_self _));clear hok hd HJ HKL
   have hBx:B < x1.heap.size:=(Array.getElem?_eq_some_iff.1 HJ1.out.box).1
   have hb2:Below x1.heap.size x1 (x1.alloc (.cells #[.int .i64 a,.int .i64 i2,.int .i64 g] 77)):=(Below.refl _ _).alloc (Kaq _) _;have HX2:Hid ((x1.alloc (.cells #[.int .i64 a,.int .i64 i2,.int .i64 g] 77)).heap[x1.heap.size]? =some (.cells #[.int .i64 a,.int .i64 i2,.int .i64 g] 77 (0,0))):=World.alloc_heap_new x1 _;have HJ2:=Q02 (HJ1.out.below hb2 hk)
   have hku:x1.heap.size < ((x1.alloc (.cells #[.int .i64 a,.int .i64 i2,.int .i64 g] 77))).heap.size:=by simp
   clear hb2 HJ1;obtain ⟨l,hl⟩:∃l,Q0e cs cs.length=l:=⟨_,rfl⟩;have HL:=Q02 hl
   have HLF:=Q02 (show Q0a l=true∧l.length≤100 by
    have h:=Q3V (key:=key) (cs:=cs) (safe:=0) (by unfold Q0p;simp only [Bool.and_eq_true,decide_eq_true_eq];exact ⟨⟨⟨⟨HKEY.out,by omega⟩,by omega⟩,by omega⟩,HRUN.out⟩)
    rw [hl] at h
    exact h)
   obtain ⟨m,hm⟩:∃m,m=cs.length:=⟨_,rfl⟩;have HM:=Q02 hm
   have HB1:Hid ((x1.alloc (.cells #[.int .i64 a,.int .i64 i2,.int .i64 g] 77)).heap[B]? =some (.cells #[.int .i64 key,.slice oJ m cJ,.int .i64 0] 25 (0,0))):=by unfold Hid;rw [hm];exact HJ2.out.box
   have HREP:=Q02 (fun W (hb:Below ((x1.alloc (.cells #[.int .i64 a,.int .i64 i2,.int .i64 g] 77))).heap.size (x1.alloc (.cells #[.int .i64 a,.int .i64 i2,.int .i64 g] 77)) W)=> QeP key oJ cJ cs l m hm W hl (((ownL.rds (L:=Q3N) HJ2.out.own).kept hb (Kaq _)).le hb.size) HKEY.out (by omega) HRUN.out)
   have HDO:=Q02 (fun o1 c1 oR1 cR1 hs1 W rk rr cr h31=> Qdj key o1 c1 l oR1 cR1 hs1 a i2 g W HKEY.out HLF.out.1 HOK.out HLF.out.2 rk rr cr h31)
   have hmi:m≤i:=by omega
   clear hl hm;obtain ⟨t,ht⟩:∃t,(doL l a i2 g).isSome=t:=⟨_,rfl⟩
   rw [ht] at HDO
   have HT:=Q02 ht;clear ht
   go_upto_region 7 with fail
   generalize (x1.alloc (.cells #[.int .i64 a,.int .i64 i2,.int .i64 g] 77))=X2 at *
   have hkB:B < X2.heap.size:=by omega
   have z0:X2.cell? ⟨B,0,none⟩=some (.int .i64 key):=Q00 HB1.out 0 _ rfl;have z1:X2.cell? ⟨B,1,none⟩=some (.slice oJ m cJ):=Q00 HB1.out 1 _ rfl;have u0:X2.cell? ⟨x1.heap.size,0,none⟩=some (.int .i64 a):=Q00 HX2.out 0 _ rfl;have u1:X2.cell? ⟨x1.heap.size,1,none⟩=some (.int .i64 i2):=Q00 HX2.out 1 _ rfl;have u2:X2.cell? ⟨x1.heap.size,2,none⟩=some (.int .i64 g):=Q00 HX2.out 2 _ rfl
   go_cut [7,8] from 21 to 30 (fun s7 s8 wx=> ∃B',s7=.pointer (some ⟨B',0,none⟩)∧s8=.bool t∧Hid (Below X2.heap.size X2 wx))
   case first=>
    go_region_held3 (fun w'=> w'.cell? ⟨B,0,none⟩=some (.int .i64 key)∧w'.cell? ⟨B,1,none⟩=some (.slice oJ m cJ)∧w'.cell? ⟨x1.heap.size,0,none⟩=some (.int .i64 a)∧w'.cell? ⟨x1.heap.size,1,none⟩=some (.int .i64 i2)∧w'.cell? ⟨x1.heap.size,2,none⟩=some (.int .i64 g)) (first|with_reducible exact ⟨k1_0,k1_1,k1_2,k1_3,k1_4⟩|with_reducible exact ⟨k0_0,k0_1,k0_2,k0_3,k0_4⟩|with_reducible exact ⟨z0,z1,u0,u1,u2⟩|with_reducible exact ⟨Q08 k1_0 (show B < X2.heap.size by omega),Q08 k1_1 (show B < X2.heap.size by omega),Q08 k1_2 (show x1.heap.size < X2.heap.size by omega),Q08 k1_3 (show x1.heap.size < X2.heap.size by omega),Q08 k1_4 (show x1.heap.size < X2.heap.size by omega)⟩|with_reducible exact ⟨Q08 k1_0 (show B < x09.heap.size by omega),Q08 k1_1 (show B < x09.heap.size by omega),Q08 k1_2 (show x1.heap.size < x09.heap.size by omega),Q08 k1_3 (show x1.heap.size < x09.heap.size by omega),Q08 k1_4 (show x1.heap.size < x09.heap.size by omega)⟩|go_keep) (first|(go_at_call 43;have hc_:=HREP.out X2.drew (Below.drew (Below.refl _ _));with_reducible refine hc_.mono ?_;clear hc_;rintro e x09 ⟨o1,c1,oR1,cR1,hs1,rfl,rk1,rr1,cr1,h31,hb⟩;have hp0:Below X2.heap.size X2 x09:=Below.trans (show Below X2.heap.size X2 X2.drew from (Below.drew (Below.refl _ _))) (hb.mono (by simp));have sp0:X2.heap.size≤x09.heap.size:=hp0.size;have hx0:Below X2.heap.size X2 x09:=hp0;have k0_0:=(hx0.cell (p:=⟨B,0,none⟩) hkB).trans z0;have k0_1:=(hx0.cell (p:=⟨B,1,none⟩) hkB).trans z1;have k0_2:=(hx0.cell (p:=⟨x1.heap.size,0,none⟩) hku).trans u0;have k0_3:=(hx0.cell (p:=⟨x1.heap.size,1,none⟩) hku).trans u1;have k0_4:=(hx0.cell (p:=⟨x1.heap.size,2,none⟩) hku).trans u2;(try have hzl0_0:=(Array.getElem?_eq_some_iff.1 hZ0_0).1);clear hb)|(go_at_call 43;have hc_:=HREP.out (X2.alloc (.cells #[.int .i64 0,.slice none 0 0,.slice none 0 0] 29)).drew (Below.drew ((Below.refl _ _).alloc (Kaq _) _));with_reducible refine hc_.mono ?_;clear hc_;rintro e x09 ⟨o1,c1,oR1,cR1,hs1,rfl,rk1,rr1,cr1,h31,hb⟩;have hp0:Below X2.heap.size X2 x09:=Below.trans (show Below X2.heap.size X2 (X2.alloc (.cells #[.int .i64 0,.slice none 0 0,.slice none 0 0] 29)).drew from (Below.drew ((Below.refl _ _).alloc (Kaq _) _))) (hb.mono (by simp));have sp0:X2.heap.size≤x09.heap.size:=hp0.size;have hx0:Below X2.heap.size X2 x09:=hp0;have k0_0:=(hx0.cell (p:=⟨B,0,none⟩) hkB).trans z0;have k0_1:=(hx0.cell (p:=⟨B,1,none⟩) hkB).trans z1;have k0_2:=(hx0.cell (p:=⟨x1.heap.size,0,none⟩) hku).trans u0;have k0_3:=(hx0.cell (p:=⟨x1.heap.size,1,none⟩) hku).trans u1;have k0_4:=(hx0.cell (p:=⟨x1.heap.size,2,none⟩) hku).trans u2;have hZ0_0:x09.heap[X2.heap.size]? =some (.cells #[.int .i64 0,.slice none 0 0,.slice none 0 0] 29 (0,0)):=(QdP hb);(try have hzl0_0:=(Array.getElem?_eq_some_iff.1 hZ0_0).1);clear hb)|(go_at_call 95;have hc_:=HDO.out o1 c1 oR1 cR1 hs1 x09 rk1 rr1 cr1 h31;with_reducible refine hc_.mono ?_;clear hc_;rintro e x19 ⟨o2,n2,c2,oR2,n3,cR2,rfl,hb⟩;have hp1:Below x09.heap.size x09 x19:=hb;have sp1:x09.heap.size≤x19.heap.size:=hp1.size;have hx1:Below X2.heap.size X2 x19:=hx0.trans (hp1.mono hx0.size);have k1_0:=(hx1.cell (p:=⟨B,0,none⟩) hkB).trans z0;have k1_1:=(hx1.cell (p:=⟨B,1,none⟩) hkB).trans z1;have k1_2:=(hx1.cell (p:=⟨x1.heap.size,0,none⟩) hku).trans u0;have k1_3:=(hx1.cell (p:=⟨x1.heap.size,1,none⟩) hku).trans u1;have k1_4:=(hx1.cell (p:=⟨x1.heap.size,2,none⟩) hku).trans u2;(try have hZ1_0:x19.heap[X2.heap.size]? =some (.cells #[.int .i64 0,.slice none 0 0,.slice none 0 0] 29 (0,0)):=(hp1.block _ (Array.getElem?_eq_some_iff.1 hZ0_0).1).trans hZ0_0);(try have hzl1_0:=(Array.getElem?_eq_some_iff.1 hZ1_0).1);(try have hzl1_1:=(Array.getElem?_eq_some_iff.1 hZ1_1).1);(try have hzc0_0:x19.cell? ⟨X2.heap.size,0,none⟩=some (.int .i64 0):=Q00 hZ1_0 0 _ rfl);(try have hzf0_0:=Q01 hZ1_0 0);(try have hzc0_1:x19.cell? ⟨X2.heap.size,1,none⟩=some (.slice none 0 0):=Q00 hZ1_0 1 _ rfl);(try have hzf0_1:=Q01 hZ1_0 1);(try have hzc0_2:x19.cell? ⟨X2.heap.size,2,none⟩=some (.slice none 0 0):=Q00 hZ1_0 2 _ rfl);(try have hzf0_2:=Q01 hZ1_0 2);(try have hzc1_0:x19.cell? ⟨x09.heap.size,0,none⟩=some (.int .i64 0):=Q00 hZ1_1 0 _ rfl);(try have hzf1_0:=Q01 hZ1_1 0);(try have hzc1_1:x19.cell? ⟨x09.heap.size,1,none⟩=some (.slice none 0 0):=Q00 hZ1_1 1 _ rfl);(try have hzf1_1:=Q01 hZ1_1 1);(try have hzc1_2:x19.cell? ⟨x09.heap.size,2,none⟩=some (.slice none 0 0):=Q00 hZ1_1 2 _ rfl);(try have hzf1_2:=Q01 hZ1_1 2);clear hb)|(go_at_call 95;have hc_:=HDO.out o1 c1 oR1 cR1 hs1 (x09.alloc (.cells #[.int .i64 0,.slice none 0 0,.slice none 0 0] 29)) ((rk1.kept ((Below.refl _ _).alloc (Kaq _) _) (Kaq _)).le (by simp)) ((rr1.kept ((Below.refl _ _).alloc (Kaq _) _) (Kaq _)).le (by simp)) cr1 h31;with_reducible refine hc_.mono ?_;clear hc_;rintro e x19 ⟨o2,n2,c2,oR2,n3,cR2,rfl,hb⟩;have hp1:Below x09.heap.size x09 x19:=Below.trans (show Below x09.heap.size x09 (x09.alloc (.cells #[.int .i64 0,.slice none 0 0,.slice none 0 0] 29)) from ((Below.refl _ _).alloc (Kaq _) _)) (hb.mono (by simp));have sp1:x09.heap.size≤x19.heap.size:=hp1.size;have hx1:Below X2.heap.size X2 x19:=hx0.trans (hp1.mono hx0.size);have k1_0:=(hx1.cell (p:=⟨B,0,none⟩) hkB).trans z0;have k1_1:=(hx1.cell (p:=⟨B,1,none⟩) hkB).trans z1;have k1_2:=(hx1.cell (p:=⟨x1.heap.size,0,none⟩) hku).trans u0;have k1_3:=(hx1.cell (p:=⟨x1.heap.size,1,none⟩) hku).trans u1;have k1_4:=(hx1.cell (p:=⟨x1.heap.size,2,none⟩) hku).trans u2;(try have hZ1_0:x19.heap[X2.heap.size]? =some (.cells #[.int .i64 0,.slice none 0 0,.slice none 0 0] 29 (0,0)):=(hp1.block _ (Array.getElem?_eq_some_iff.1 hZ0_0).1).trans hZ0_0);have hZ1_1:x19.heap[x09.heap.size]? =some (.cells #[.int .i64 0,.slice none 0 0,.slice none 0 0] 29 (0,0)):=(Qg2 hb);(try have hzl1_0:=(Array.getElem?_eq_some_iff.1 hZ1_0).1);(try have hzl1_1:=(Array.getElem?_eq_some_iff.1 hZ1_1).1);(try have hzc0_0:x19.cell? ⟨X2.heap.size,0,none⟩=some (.int .i64 0):=Q00 hZ1_0 0 _ rfl);(try have hzf0_0:=Q01 hZ1_0 0);(try have hzc0_1:x19.cell? ⟨X2.heap.size,1,none⟩=some (.slice none 0 0):=Q00 hZ1_0 1 _ rfl);(try have hzf0_1:=Q01 hZ1_0 1);(try have hzc0_2:x19.cell? ⟨X2.heap.size,2,none⟩=some (.slice none 0 0):=Q00 hZ1_0 2 _ rfl);(try have hzf0_2:=Q01 hZ1_0 2);(try have hzc1_0:x19.cell? ⟨x09.heap.size,0,none⟩=some (.int .i64 0):=Q00 hZ1_1 0 _ rfl);(try have hzf1_0:=Q01 hZ1_1 0);(try have hzc1_1:x19.cell? ⟨x09.heap.size,1,none⟩=some (.slice none 0 0):=Q00 hZ1_1 1 _ rfl);(try have hzf1_1:=Q01 hZ1_1 1);(try have hzc1_2:x19.cell? ⟨x09.heap.size,2,none⟩=some (.slice none 0 0):=Q00 hZ1_1 2 _ rfl);(try have hzf1_2:=Q01 hZ1_1 2);clear hb))
    all_goals (go_wp2_with fail;go_meet)
    all_goals first
     |with_reducible exact Qi4 hx1 (show _≤X2.heap.size by omega)
     |with_reducible exact Qi4 hx1 (show _≤x09.heap.size by omega)
     |with_reducible exact QhY hx1
   case rest=>
    obtain ⟨B9,rfl,rfl,HBL⟩:=hcut;have hb:=HBL.out;have hwz:=hb.size;have HX3:=Q02 ((hb.block _ hku).trans HX2.out);have HJ4:=Q02 (HJ2.out.below hb hk);clear hb HBL HX2 HJ2 HB1 z0 z1 u0 u1 u2 HREP HDO
    cases t with
    |false=>
     go_wp2
     go_roundw
     case rel=> exact ⟨i+1,cs,oJ,cJ,by omega,by go_num,HJ4.out,by omega,HRUN.out⟩
     case measure=> simp [intOf];omega
    |true=>
     obtain ⟨mm,hmm⟩:=Option.isSome_iff_exists.1 HT.out
     have HRUN2:=Q02 (Qba HRUN.out HOK.out (by rw [HL.out];exact hmm))
     clear hmm
     have HB4:Hid (wc.heap[B]? =some (.cells #[.int .i64 key,.slice oJ m cJ,.int .i64 0] 25 (0,0))):=by unfold Hid;rw [HM.out];exact HJ4.out.box
     have y1:wc.cell? ⟨B,1,none⟩=some (.slice oJ m cJ):=Q00 HB4.out 1 _ rfl;have v0:wc.cell? ⟨x1.heap.size,0,none⟩=some (.int .i64 a):=Q00 HX3.out 0 _ rfl;have v1:wc.cell? ⟨x1.heap.size,1,none⟩=some (.int .i64 i2):=Q00 HX3.out 1 _ rfl;have v2:wc.cell? ⟨x1.heap.size,2,none⟩=some (.int .i64 g):=Q00 HX3.out 2 _ rfl
     have HOW:Hid (Qbr wc (B+1) (.slice oJ m cJ) cs):=by unfold Hid;rw [HM.out];exact HJ4.out.own
     have HA:=Q02 (World.ownsRow.alloc HOW.out (.cells #[.int .i64 a,.int .i64 i2,.int .i64 g] 77))
     have hBw:B < wc.heap.size:=by omega
     go_wp2_with (first|(at_builtin;refine Q07 Qc8 rfl (.tmp 33) (.tmp 35) rfl (B+1) _ cs rfl HA.out (some ⟨wc.heap.size,0,none⟩) 1 _ [(a,i2,g)] 1 rfl rfl (by simp) Q8e (by simp;omega) (by simp;omega) ?_))
     intro v8 w8 ho8 hg8 _
     obtain ⟨o8,c8,e8,_⟩:=ownL.open (L:=Q3N) ho8;subst e8
     have HNE:Hid (∀q,q≤B→¬(some q=(Value.slice oJ m cJ).ownBlock)):=fun q hq e=> by have:=(HOW.out.lt q e.symm).1;omega
     have hbw:Below wc.heap.size wc (wc.alloc (.cells #[.int .i64 a,.int .i64 i2,.int .i64 g] 77)):=(Below.refl _ _).alloc (Kaq _) _
     have hx8:=(hg8.block B (by simp;omega) (HNE.out B (Kaq _))).trans ((hbw.block B hBw).trans HB4.out)
     have hr8:=(hg8.block w.heap.size (by simp;omega) (HNE.out _ (by omega))).trans ((hbw.block w.heap.size (by omega)).trans HJ4.out.res)
     have hb8:Below w.heap.size wc w8:=(hbw.mono (by omega)).grown hg8 (by simp;omega) (fun q h=> by have:=(HOW.out.lt q h).1;omega)
     have HD8:=Q02 (HJ4.out.dr.below hk hb8);have p8:w8.cell? ⟨B,1,none⟩=some (.slice oJ m cJ):=Q00 hx8 1 _ rfl;have f8:w8.frozen? ⟨B,1,none⟩=false:=Q01 hx8 1
     have HJ9:=Q02 (show JInv k B w.heap.size (B+1) w (w8.setCell ⟨B,1,none⟩ (.slice o8 (cs++[(a,i2,g)]).length c8)) key (cs++[(a,i2,g)]) o8 c8 from ⟨Q06 hx8 1 _,Q1Z hr8 (by omega),Q1G ho8 hx8 1 _,HD8.out.below hk ((Below.refl _ _).setCell (p:=⟨B,1,none⟩) (by exact Nat.le_of_lt hs1) _)⟩)
     clear hg8 ho8 hx8 hr8 hb8 hbw HD8 y1 v0 v1 v2
     go_wp2
     go_roundw
     case rel=> exact ⟨i+1,cs++[(a,i2,g)],o8,c8,by omega,by go_num,by have h:=HJ9.out;rw [List.length_append] at h;exact h,by simp;omega,HRUN2.out⟩
     case measure=> simp [intOf];omega
  ·have e:i=n:=by omega
   subst e
   have hn:i≤10:=by omega
   obtain ⟨m,hm⟩:∃m,m=cs.length:=⟨_,rfl⟩;have HM:=Q02 hm
   have HB4:Hid (wr.heap[B]? =some (.cells #[.int .i64 key,.slice oJ m cJ,.int .i64 0] 25 (0,0))):=by unfold Hid;rw [hm];exact HJ.out.box
   have z1:wr.cell? ⟨B,1,none⟩=some (.slice oJ m cJ):=Q00 HB4.out 1 _ rfl
   have hmi:m≤i:=by omega
   clear hm
   go_wp2_with fail
   refine (Q0m k ((m:Int)+1) wr HJ.out.dr.cur (by omega) (by omega)).mono ?_
   rintro e w5 ⟨s,rfl,hs0,hs1',hc5,hg5⟩
   have HJ5:=Q02 (HJ.out.draw hc5 hg5 hk (Kaq _) hs1 (Nat.lt_succ_self _))
   have hB5:w5.heap[B]? =some (.cells #[.int .i64 key,.slice oJ m cJ,.int .i64 0] 25 (0,0)):=by rw [HM.out];exact HJ5.out.box
   have hX6:=Q06 hB5 2 (.int .i64 s)
   have hR6:=Q1Z (j:=2) (u:=.int .i64 s) HJ5.out.res (show w.heap.size≠B by omega)
   have HO6:=Q02 (Q1G (Q1G (Q1G (Q1G (show Qbr w5 (B+1) (.slice oJ m cJ) cs by rw [HM.out];exact HJ5.out.own) hB5 2 (.int .i64 s)) hR6 0 (.int .i64 key)) (Q06 hR6 0 (.int .i64 key)) 1 (.slice oJ m cJ)) (Q06 (Q06 hR6 0 (.int .i64 key)) 1 (.slice oJ m cJ)) 2 (.int .i64 s))
   have y2:w5.cell? ⟨B,2,none⟩=some (.int .i64 0):=Q00 hB5 2 _ rfl;have fy2:w5.frozen? ⟨B,2,none⟩=false:=Q01 hB5 2;have v0:(w5.setCell ⟨B,2,none⟩ (.int .i64 s)).cell? ⟨B,0,none⟩=some (.int .i64 key):=Q00 hX6 0 _ rfl;have v1:(w5.setCell ⟨B,2,none⟩ (.int .i64 s)).cell? ⟨B,1,none⟩=some (.slice oJ m cJ):=Q00 hX6 1 _ rfl;have v2:(w5.setCell ⟨B,2,none⟩ (.int .i64 s)).cell? ⟨B,2,none⟩=some (.int .i64 s):=Q00 hX6 2 _ rfl;have r0:(w5.setCell ⟨B,2,none⟩ (.int .i64 s)).cell? ⟨w.heap.size,0,none⟩=some (.int .i64 0):=Q00 hR6 0 _ rfl
   have fr0:(w5.setCell ⟨B,2,none⟩ (.int .i64 s)).frozen? ⟨w.heap.size,0,none⟩=false:=Q01 hR6 0;have r1:(w5.setCell ⟨B,2,none⟩ (.int .i64 s)).cell? ⟨w.heap.size,1,none⟩=some (.slice none 0 0):=Q00 hR6 1 _ rfl;have fr1:(w5.setCell ⟨B,2,none⟩ (.int .i64 s)).frozen? ⟨w.heap.size,1,none⟩=false:=Q01 hR6 1;have r2:(w5.setCell ⟨B,2,none⟩ (.int .i64 s)).cell? ⟨w.heap.size,2,none⟩=some (.int .i64 0):=Q00 hR6 2 _ rfl;have fr2:(w5.setCell ⟨B,2,none⟩ (.int .i64 s)).frozen? ⟨w.heap.size,2,none⟩=false:=Q01 hR6 2
   have HJB:=Q02 (show Q0p key cs s=true by unfold Q0p;simp only [Bool.and_eq_true,decide_eq_true_eq];exact ⟨⟨⟨⟨HKEY.out,by omega⟩,hs0⟩,by have:=HM.out;omega⟩,HRUN.out⟩)
   clear hc5 hg5 HJ HB4 hB5 hX6 hR6 z1
   go_wp2
   refine bodyPost_ret (v:=jrn key (.slice oJ m cJ) s) (by simp [results,Tryz.results133,go_sem,r0,r1,r2]) rfl ⟨_,⟨key,cs,s⟩,rfl,⟨_,rfl,InRow.mono (InRow.of HO6.out) (by omega) (Kaq _)⟩,HJB.out,show cs.length≤10 by omega,HJ5.out.dr.below hk ?_⟩
   exact Q0A ((Below.refl _ _).setCell (p:=⟨B,2,none⟩) (Nat.le_of_lt hs1) _) (Kaq _) _ _ _
structure JS (k B R C:Nat) (w0 wr:World) (key s:Int) (cs:List Cd) (o:Option Addr) (n c:Nat):Prop where
 len:n=cs.length
 box:wr.heap[B]? =some (.cells #[.int .i64 key,.slice o n c,.int .i64 s] 25 (0,0))
 res:wr.heap[R]? =some (.cells #[.int .i64 0,.slice none 0 0,.int .i64 0] 25 (0,0))
 own:Qbr wr C (.slice o n c) cs
 dr:Dr k w0 wr
theorem JS.draw {k B R C:Nat} {w0 wr:World} {key s:Int} {cs:List Cd} {o:Option Addr} {n c:Nat} {x:World} (h:JS k B R C w0 wr key s cs o n c) (hc:isCur k x) (hg:wr.grownBy x (some k)) (hB:B≠k) (hR:R≠k) (hC:k < C):JS k B R C w0 x key s cs o n c:=
 ⟨h.len,Q09 hg (Array.getElem?_eq_some_iff.1 h.box).1 hB h.box,Q09 hg (Array.getElem?_eq_some_iff.1 h.res).1 hR h.res,Q3s h.own hg hC,h.dr.step hc hg⟩
theorem JS.below {k B R C:Nat} {w0 wr:World} {key s:Int} {cs:List Cd} {o:Option Addr} {n c:Nat} {x:World} (h:JS k B R C w0 wr key s cs o n c) (hb:Below wr.heap.size wr x) (hk:k < w0.heap.size):JS k B R C w0 x key s cs o n c:=
 ⟨h.len,(hb.block _ (Array.getElem?_eq_some_iff.1 h.box).1).trans h.box,(hb.block _ (Array.getElem?_eq_some_iff.1 h.res).1).trans h.res,Q03 h.own hb,h.dr.below hk (hb.mono h.dr.gr.size)⟩
theorem JS.set0 {k B R C:Nat} {w0 wr:World} {key s:Int} {cs:List Cd} {o:Option Addr} {n c:Nat} (h:JS k B R C w0 wr key s cs o n c) (hk:k < w0.heap.size) (hB:w0.heap.size≤B) (hR:R≠B) (y:Int):JS k B R C w0 (wr.setCell ⟨B,0,none⟩ (.int .i64 y)) y s cs o n c:=
 ⟨h.len,Q06 h.box 0 _,Q1Z h.res hR,Q1G h.own h.box 0 _,h.dr.below hk ((Below.refl _ _).setCell (p:=⟨B,0,none⟩) hB _)⟩
theorem JS.set2 {k B R C:Nat} {w0 wr:World} {key s:Int} {cs:List Cd} {o:Option Addr} {n c:Nat} (h:JS k B R C w0 wr key s cs o n c) (hk:k < w0.heap.size) (hB:w0.heap.size≤B) (hR:R≠B) (y:Int):JS k B R C w0 (wr.setCell ⟨B,2,none⟩ (.int .i64 y)) key y cs o n c:=
 ⟨h.len,Q06 h.box 2 _,Q1Z h.res hR,Q1G h.own h.box 2 _,h.dr.below hk ((Below.refl _ _).setCell (p:=⟨B,2,none⟩) hB _)⟩
theorem JS.done {k B C:Nat} {w0 wr:World} {key s:Int} {cs:List Cd} {o:Option Addr} {n c:Nat} (h:JS k B w0.heap.size C w0 wr key s cs o n c) (hk:k < w0.heap.size) (hC:w0.heap.size≤C):InJm w0.heap.size (setP wr w0.heap.size (.int .i64 key) (.slice o n c) (.int .i64 s)).heap.size (setP wr w0.heap.size (.int .i64 key) (.slice o n c) (.int .i64 s)) (jrn key (.slice o n c) s) ⟨key,cs,s⟩∧Dr k w0 (setP wr w0.heap.size (.int .i64 key) (.slice o n c) (.int .i64 s)):=by
 have r1:=Q06 h.res 0 (.int .i64 key);have r2:=Q06 r1 1 (.slice o n c);have o1:=Q1G (Q1G (Q1G h.own h.res 0 (.int .i64 key)) r1 1 (.slice o n c)) r2 2 (.int .i64 s)
 exact ⟨⟨_,rfl,InRow.mono (InRow.of o1) hC (Kaq _)⟩,h.dr.below hk (Q0A (Below.refl _ _) (Kaq _) _ _ _)⟩
theorem JS.push {k B R C:Nat} {w0 wr:World} {key s:Int} {cs:List Cd} {o:Option Addr} {n c:Nat} {w8:World} {a i g:Int} {o8:Option Addr} {n8 c8:Nat} {O:Obj} (h:JS k B R C w0 wr key s cs o n c) (hk:k < w0.heap.size) (hB:w0.heap.size≤B) (hR:R≠B) (hC:w0.heap.size≤C) (hRC:R < C) (hn:n8=n+1) (ho:Qbr w8 C (.slice o8 n8 c8) (cs++[(a,i,g)])) (hg:(wr.alloc O).grownBy w8 (Value.slice o n c).ownBlock):
  w8.heap[B]? =some (.cells #[.int .i64 key,.slice o n c,.int .i64 s] 25 (0,0))∧JS k B R C w0 (w8.setCell ⟨B,1,none⟩ (.slice o8 n8 c8)) key s (cs++[(a,i,g)]) o8 n8 c8:=by
 have hb:Below wr.heap.size wr (wr.alloc O):=(Below.refl _ _).alloc (Kaq _) _
 have hlB:=(Array.getElem?_eq_some_iff.1 h.box).1
 have hlR:=(Array.getElem?_eq_some_iff.1 h.res).1
 have hsz:=hb.size
 have hnB:¬(some B=(Value.slice o n c).ownBlock):=fun e=> by
  rcases Q1P h.own h.box (show (77:TypeId)≠25 by decide) with h1|h1
  ·rw [h1] at e;cases e
  ·exact h1 e.symm
 have hnR:¬(some R=(Value.slice o n c).ownBlock):=fun e=> by have:=(h.own.lt R e.symm).1;omega
 have hx8:=(hg.block B (by omega) hnB).trans ((hb.block B hlB).trans h.box)
 have hr8:=(hg.block R (by omega) hnR).trans ((hb.block R hlR).trans h.res)
 have hb8:Below w0.heap.size wr w8:=(hb.mono h.dr.gr.size).grown hg (by have:=h.dr.gr.size;omega) (fun q e=> by have:=(h.own.lt q e).1;omega)
 exact ⟨hx8,⟨by simp [hn,h.len],Q06 hx8 1 _,Q1Z hr8 hR,Q1G ho hx8 1 _,(h.dr.below hk hb8).below hk ((Below.refl _ _).setCell (p:=⟨B,1,none⟩) hB _)⟩⟩
theorem QaC (k:Nat) (w:World) (hc:isCur k w) (hk:k < w.heap.size):
  Calls Tryz.prog 81 #[.pointer (some ⟨k,0,none⟩)] w fun e w'=> ∃v m,e=.returned v∧InJm w.heap.size w'.heap.size w' v m∧m.l.length≤11∧Dr k w w':=by
 obtain ⟨W0,hW0⟩:∃W,w.alloc (.cells #[.int .i64 0,.slice none 0 0,.int .i64 0] 25)=W:=⟨_,rfl⟩
 have hb0:Below w.heap.size w W0:=by rw [←hW0];exact (Below.refl _ _).alloc (Kaq _) _
 have HD0:=Q02 (show Dr k w W0 from ⟨hc.below (hb0.mono hk),by rw [←hW0];exact Q0r w _ k⟩)
 have HR0:Hid (W0.heap[w.heap.size]? =some (.cells #[.int .i64 0,.slice none 0 0,.int .i64 0] 25 (0,0))):=by rw [←hW0];exact World.alloc_heap_new w _
 have hs0:w.heap.size < W0.heap.size:=by rw [←hW0];simp
 clear hb0 hc
 go_enter Tryz.func81,Tryz.ntmps81
 go_wp2_with fail
 refine (Q6D k W0 HD0.out.cur (HD0.out.lt hk)).mono ?_
 rintro e w1 ⟨v,⟨key,cs,s⟩,rfl,⟨vl,rfl,hin⟩,_,hl10,hd1⟩
 obtain ⟨o,c,e1,_⟩:=ownL.open (L:=Q3N) hin.1;subst e1
 dsimp only at hin hl10 ⊢
 obtain ⟨n,hn⟩:∃n,cs.length=n:=⟨_,rfl⟩
 rw [hn] at hin hl10 ⊢
 have HW1:=Q02 hin.1;have HD1:=Q02 (HD0.out.step hd1.cur hd1.gr)
 have HR1:=Q02 (Q09 hd1.gr hs0 (by omega) HR0.out)
 have hs1:W0.heap.size≤w1.heap.size:=hd1.gr.size;have HN:=Q02 hn;clear hd1 hin HR0 HD0 hn;have hb2:Below w1.heap.size w1 (w1.alloc (.cells #[.int .i64 key,.slice o n c,.int .i64 s] 25)):=(Below.refl _ _).alloc (Kaq _) _
 have HJ2:=Q02 (show JS k w1.heap.size w.heap.size W0.heap.size w (w1.alloc (.cells #[.int .i64 key,.slice o n c,.int .i64 s] 25)) key s cs o n c from ⟨HN.out.symm,World.alloc_heap_new w1 _,(hb2.block _ (by omega)).trans HR1.out,Q03 HW1.out hb2,HD1.out.below hk (hb2.mono (by omega))⟩)
 clear hb2 HR1 HD1 HW1
 go_wp2_with fail
 generalize (w1.alloc (.cells #[.int .i64 key,.slice o n c,.int .i64 s] 25))=W2 at *;obtain ⟨B,hB⟩:∃B,w1.heap.size=B:=⟨_,rfl⟩
 simp only [hB] at HJ2 hs1 ⊢
 have hkB:B≠k:=by omega
 have hkR:w.heap.size≠k:=by omega
 have hRB:w.heap.size≠B:=by omega
 have hwB:w.heap.size≤B:=by omega
 have hkC:k < W0.heap.size:=by omega
 clear hB
 refine (Q1g k 7 W2 HJ2.out.dr.cur (by decide) (by decide)).mono ?_
 rintro e w3 ⟨yes,rfl,hc3,hg3⟩
 have HJ3:=Q02 (HJ2.out.draw hc3 hg3 hkB hkR hkC);clear hc3 hg3 HJ2
 cases yes with
 |false=>
  have z0:w3.cell? ⟨B,0,none⟩=some (.int .i64 key):=Q00 HJ3.out.box 0 _ rfl;have z1:w3.cell? ⟨B,1,none⟩=some (.slice o n c):=Q00 HJ3.out.box 1 _ rfl;have z2:w3.cell? ⟨B,2,none⟩=some (.int .i64 s):=Q00 HJ3.out.box 2 _ rfl;have r0:w3.cell? ⟨w.heap.size,0,none⟩=some (.int .i64 0):=Q00 HJ3.out.res 0 _ rfl;have fr0:w3.frozen? ⟨w.heap.size,0,none⟩=false:=Q01 HJ3.out.res 0;have r1:w3.cell? ⟨w.heap.size,1,none⟩=some (.slice none 0 0):=Q00 HJ3.out.res 1 _ rfl;have fr1:w3.frozen? ⟨w.heap.size,1,none⟩=false:=Q01 HJ3.out.res 1
  have r2:w3.cell? ⟨w.heap.size,2,none⟩=some (.int .i64 0):=Q00 HJ3.out.res 2 _ rfl;have fr2:w3.frozen? ⟨w.heap.size,2,none⟩=false:=Q01 HJ3.out.res 2;have HF:=Q02 (HJ3.out.done hk (Nat.le_of_lt hs0));clear HJ3
  go_wp2
  refine bodyPost_ret (v:=jrn key (.slice o n c) s) (by simp [results,Tryz.results81,go_sem,r0,r1,r2]) rfl ⟨_,⟨key,cs,s⟩,rfl,HF.out.1,show cs.length≤11 by have:=HN.out;omega,HF.out.2⟩
 |true=>
  go_wp2_with fail
  refine (Q0m k 3 w3 HJ3.out.dr.cur (by decide) (by decide)).mono ?_
  rintro e w4 ⟨x,rfl,hx0,hx3,hc4,hg4⟩
  have HJ4:=Q02 (HJ3.out.draw hc4 hg4 hkB hkR hkC);clear hc4 hg4 HJ3
  by_cases e0:x=0
  ·subst e0
   have z1:w4.cell? ⟨B,1,none⟩=some (.slice o n c):=Q00 HJ4.out.box 1 _ rfl
   go_wp2_with fail
   refine (Q2l k [-1,(n:Int)+1] w4 HJ4.out.dr.cur (HJ4.out.dr.lt hk) (by simp) (by simp)).mono ?_
   rintro e w5 ⟨y,_,rfl,hc5,hg5⟩
   have HJ5:=HJ4.out.draw hc5 hg5 hkB hkR hkC;have HJ6:=HJ5.set2 hk hwB hRB y;have y2:w5.cell? ⟨B,2,none⟩=some (.int .i64 s):=Q00 HJ5.box 2 _ rfl;have fy2:w5.frozen? ⟨B,2,none⟩=false:=Q01 HJ5.box 2;have q0:(w5.setCell ⟨B,2,none⟩ (.int .i64 y)).cell? ⟨B,0,none⟩=some (.int .i64 key):=Q00 HJ6.box 0 _ rfl;have q1:(w5.setCell ⟨B,2,none⟩ (.int .i64 y)).cell? ⟨B,1,none⟩=some (.slice o n c):=Q00 HJ6.box 1 _ rfl;have q2:(w5.setCell ⟨B,2,none⟩ (.int .i64 y)).cell? ⟨B,2,none⟩=some (.int .i64 y):=Q00 HJ6.box 2 _ rfl
   have r0:(w5.setCell ⟨B,2,none⟩ (.int .i64 y)).cell? ⟨w.heap.size,0,none⟩=some (.int .i64 0):=Q00 HJ6.res 0 _ rfl;have fr0:(w5.setCell ⟨B,2,none⟩ (.int .i64 y)).frozen? ⟨w.heap.size,0,none⟩=false:=Q01 HJ6.res 0;have r1:(w5.setCell ⟨B,2,none⟩ (.int .i64 y)).cell? ⟨w.heap.size,1,none⟩=some (.slice none 0 0):=Q00 HJ6.res 1 _ rfl;have fr1:(w5.setCell ⟨B,2,none⟩ (.int .i64 y)).frozen? ⟨w.heap.size,1,none⟩=false:=Q01 HJ6.res 1;have r2:(w5.setCell ⟨B,2,none⟩ (.int .i64 y)).cell? ⟨w.heap.size,2,none⟩=some (.int .i64 0):=Q00 HJ6.res 2 _ rfl
   have fr2:(w5.setCell ⟨B,2,none⟩ (.int .i64 y)).frozen? ⟨w.heap.size,2,none⟩=false:=Q01 HJ6.res 2;have HF:=Q02 (HJ6.done hk (Nat.le_of_lt hs0));clear hc5 hg5 HJ4 HJ5 HJ6
   go_wp2
   refine bodyPost_ret (v:=jrn key (.slice o n c) y) (by simp [results,Tryz.results81,go_sem,r0,r1,r2]) rfl ⟨_,⟨key,cs,y⟩,rfl,HF.out.1,show cs.length≤11 by have:=HN.out;omega,HF.out.2⟩
  by_cases e1:x=1
  ·subst e1
   have z1:w4.cell? ⟨B,1,none⟩=some (.slice o n c):=Q00 HJ4.out.box 1 _ rfl;have HCD:Hid (isCur k w4.drew):=HJ4.out.dr.cur.below (Below.drew (Below.refl _ _));have HKD:Hid (k < w4.drew.heap.size):=HJ4.out.dr.lt hk
   go_wp2
   go_region_law (first|(go_simp;go_at_call 72;refine (Q8f k _ HCD.out HKD.out).mono ?_;rintro e w7 ⟨a,i2,g,rfl,hd⟩;have hg7:w4.grownBy w7 (some k):=⟨hd.gr.os,hd.gr.tape,hd.gr.output,hd.gr.size,hd.gr.block⟩;have J7:=HJ4.out.draw hd.cur hg7 hkB hkR hkC;have y7:w7.cell? ⟨B,1,none⟩=some (.slice o n c):=Q00 J7.box 1 _ rfl;have z4a:∀O,(w7.alloc O).cell? ⟨B,1,none⟩=some (.slice o n c):=(fun O=> Q00 (J7.below ((Below.refl _ _).alloc (Kaq _) O) hk).box 1 _ rfl);have hs7:W0.heap.size≤w7.heap.size:=(by have:=(Array.getElem?_eq_some_iff.1 J7.box).1;omega);clear hd hg7;dsimp only)|(refine Q0n Qc8 rfl (.tmp 27) (.tmp 30) rfl W0.heap.size (.slice o n c) cs rfl (World.ownsRow.alloc J7.own _) (some ⟨w7.heap.size,0,none⟩) 1 _ [(a,i2,g)] 1 rfl rfl (by simp) Q8e (by simp;have:=HN.out;omega) (by simp;omega) ?_;intro v8 w8 ho8 hg8 _;obtain ⟨o8,c8,e8,_⟩:=ownL.open (L:=Q3N) ho8;rw [List.length_append] at e8;rw [HN.out] at e8;subst e8;have R8:=J7.push hk hwB hRB (Nat.le_of_lt hs0) hs0 rfl ho8 hg8;have p8:w8.cell? ⟨B,1,none⟩=some (.slice o n c):=Q00 R8.1 1 _ rfl;have f8:w8.frozen? ⟨B,1,none⟩=false:=Q01 R8.1 1))
   all_goals (
    have HJ9:=R8.2;have q0:(w8.setCell ⟨B,1,none⟩ (.slice o8 (n+1) c8)).cell? ⟨B,0,none⟩=some (.int .i64 key):=Q00 HJ9.box 0 _ rfl;have q1:(w8.setCell ⟨B,1,none⟩ (.slice o8 (n+1) c8)).cell? ⟨B,1,none⟩=some (.slice o8 (n+1) c8):=Q00 HJ9.box 1 _ rfl;have q2:(w8.setCell ⟨B,1,none⟩ (.slice o8 (n+1) c8)).cell? ⟨B,2,none⟩=some (.int .i64 s):=Q00 HJ9.box 2 _ rfl;have r0:(w8.setCell ⟨B,1,none⟩ (.slice o8 (n+1) c8)).cell? ⟨w.heap.size,0,none⟩=some (.int .i64 0):=Q00 HJ9.res 0 _ rfl;have fr0:(w8.setCell ⟨B,1,none⟩ (.slice o8 (n+1) c8)).frozen? ⟨w.heap.size,0,none⟩=false:=Q01 HJ9.res 0
    have r1:(w8.setCell ⟨B,1,none⟩ (.slice o8 (n+1) c8)).cell? ⟨w.heap.size,1,none⟩=some (.slice none 0 0):=Q00 HJ9.res 1 _ rfl;have fr1:(w8.setCell ⟨B,1,none⟩ (.slice o8 (n+1) c8)).frozen? ⟨w.heap.size,1,none⟩=false:=Q01 HJ9.res 1;have r2:(w8.setCell ⟨B,1,none⟩ (.slice o8 (n+1) c8)).cell? ⟨w.heap.size,2,none⟩=some (.int .i64 0):=Q00 HJ9.res 2 _ rfl;have fr2:(w8.setCell ⟨B,1,none⟩ (.slice o8 (n+1) c8)).frozen? ⟨w.heap.size,2,none⟩=false:=Q01 HJ9.res 2;have HF:=Q02 (HJ9.done hk (Nat.le_of_lt hs0));clear HJ4 HJ9 R8 ho8 hg8 J7 y7 z4a z1
    go_wp2
    refine bodyPost_ret (v:=jrn key (.slice o8 (n+1) c8) s) (by simp [results,Tryz.results81,go_sem,r0,r1,r2]) rfl ⟨_,⟨key,cs++[(a,i2,g)],s⟩,rfl,HF.out.1,show (cs++[(a,i2,g)]).length≤11 by rw [List.length_append,HN.out];simp;omega,HF.out.2⟩)
  ·go_wp2_with fail
   refine (Q2l k [-1,999999,1000000] w4 HJ4.out.dr.cur (HJ4.out.dr.lt hk) (by decide) (by decide)).mono ?_
   rintro e w5 ⟨y,_,rfl,hc5,hg5⟩
   have HJ5:=HJ4.out.draw hc5 hg5 hkB hkR hkC;have HJ6:=HJ5.set0 hk hwB hRB y;have y2:w5.cell? ⟨B,0,none⟩=some (.int .i64 key):=Q00 HJ5.box 0 _ rfl;have fy2:w5.frozen? ⟨B,0,none⟩=false:=Q01 HJ5.box 0;have q0:(w5.setCell ⟨B,0,none⟩ (.int .i64 y)).cell? ⟨B,0,none⟩=some (.int .i64 y):=Q00 HJ6.box 0 _ rfl;have q1:(w5.setCell ⟨B,0,none⟩ (.int .i64 y)).cell? ⟨B,1,none⟩=some (.slice o n c):=Q00 HJ6.box 1 _ rfl;have q2:(w5.setCell ⟨B,0,none⟩ (.int .i64 y)).cell? ⟨B,2,none⟩=some (.int .i64 s):=Q00 HJ6.box 2 _ rfl
   have r0:(w5.setCell ⟨B,0,none⟩ (.int .i64 y)).cell? ⟨w.heap.size,0,none⟩=some (.int .i64 0):=Q00 HJ6.res 0 _ rfl;have fr0:(w5.setCell ⟨B,0,none⟩ (.int .i64 y)).frozen? ⟨w.heap.size,0,none⟩=false:=Q01 HJ6.res 0;have r1:(w5.setCell ⟨B,0,none⟩ (.int .i64 y)).cell? ⟨w.heap.size,1,none⟩=some (.slice none 0 0):=Q00 HJ6.res 1 _ rfl;have fr1:(w5.setCell ⟨B,0,none⟩ (.int .i64 y)).frozen? ⟨w.heap.size,1,none⟩=false:=Q01 HJ6.res 1;have r2:(w5.setCell ⟨B,0,none⟩ (.int .i64 y)).cell? ⟨w.heap.size,2,none⟩=some (.int .i64 0):=Q00 HJ6.res 2 _ rfl
   have fr2:(w5.setCell ⟨B,0,none⟩ (.int .i64 y)).frozen? ⟨w.heap.size,2,none⟩=false:=Q01 HJ6.res 2;have HF:=Q02 (HJ6.done hk (Nat.le_of_lt hs0));clear hc5 hg5 HJ4 HJ5 HJ6
   go_wp2
   refine bodyPost_ret (v:=jrn y (.slice o n c) s) (by simp [results,Tryz.results81,go_sem,r0,r1,r2]) rfl ⟨_,⟨y,cs,s⟩,rfl,HF.out.1,show cs.length≤11 by have:=HN.out;omega,HF.out.2⟩
def Q4T (lll:List (List (List Int))):Prop:=1≤lll.length∧lll.length≤3∧∀i,i < lll.length→(lll.getD i []).length=8∧∀j,((lll.getD i []).getD j []).length≤2
theorem QcX (cs:List Cd):∀n,1≤(Q1f cs n).length
 |0=> by simp [Q1f]
 |n+1=> by rw [Q1f];simp
theorem Qan (key:Int) (R:List (List Bk)) (h1:1≤R.length) (h3:R.length≤3):Q4T (Q13 key R):=by
 refine ⟨by simpa [Q13] using h1,by simpa [Q13] using h3,fun i hi=> ?_⟩
 have hi':i < R.length:=by simpa [Q13] using hi
 rw [Q2G key R i hi']
 exact ⟨Q1B _ _,fun j=> Q6s _ _ j⟩
theorem GTabs.draw {w w':World} {base k:Nat} {hs:List Hd} {R:List (List (List Int))} (h:GTabs w base hs R) (hg:w.grownBy w' (some k)) (hk:k < base):GTabs w' base hs R:=
 ⟨h.1,fun i hi=> by
  obtain ⟨o3,c3,hs8,e,h1,h2⟩:=h.2 i hi
  refine ⟨o3,c3,hs8,e,Q3s (L:=Q0C) h1 hg hk,h2.grown hg (fun q hq=> ?_)⟩
  cases hob:(hv hs8 q).ownBlock with
  |none=> exact .inl rfl
  |some j=> right;have:=((h2.row q hq).lt j hob).1;intro e;simp at e;omega⟩
theorem QbP (k:Nat) (w:World) (hc:isCur k w) (hk:k < w.heap.size):
  Calls Tryz.prog 134 #[.pointer (some ⟨k,0,none⟩)] w fun e w'=> ∃key l lll hs o2 c2 oQ cQ,e=.returned (plv key (.slice o2 l.length c2) (.slice oQ lll.length cQ))∧l.length≤100∧Q4T lll∧Q1i w' w.heap.size (.slice o2 l.length c2) l∧ownL Q0C 51 w' w.heap.size (.slice oQ lll.length cQ) hs∧GTabs w' w.heap.size hs lll∧Dr k w w':=by
 obtain ⟨W0,hW0⟩:∃W,w.alloc (.cells #[.int .i64 0,.slice none 0 0,.slice none 0 0] 29)=W:=⟨_,rfl⟩
 have hb0:Below w.heap.size w W0:=by rw [←hW0];exact (Below.refl _ _).alloc (Kaq _) _
 have HD0:=Q02 (show Dr k w W0 from ⟨hc.below (hb0.mono hk),by rw [←hW0];exact Q0r w _ k⟩)
 have HR0:Hid (W0.heap[w.heap.size]? =some (.cells #[.int .i64 0,.slice none 0 0,.slice none 0 0] 29 (0,0))):=by rw [←hW0];exact World.alloc_heap_new w _
 have hs0:w.heap.size < W0.heap.size:=by rw [←hW0];simp
 clear hb0 hc
 go_enter Tryz.func134,Tryz.ntmps134
 go_wp2_with fail
 refine (Q6D k W0 HD0.out.cur (HD0.out.lt hk)).mono ?_
 rintro e w1 ⟨v,⟨key,cs,s⟩,rfl,⟨vl,rfl,hin⟩,hj,hl10,hd1⟩
 obtain ⟨o,c,e1,_⟩:=ownL.open (L:=Q3N) hin.1;subst e1
 dsimp only at hin hl10 hj ⊢
 obtain ⟨⟨hkey,hl,_,_⟩,hrun⟩:=And.intro (Q0Q hj) (Q1O hj)
 have HSE:=Q02 (Q2J hj cs.length (by omega))
 obtain ⟨W2,hW2⟩:∃W,w1.alloc (.cells #[.int .i64 key,.slice o cs.length c,.int .i64 s] 25)=W:=⟨_,rfl⟩
 have hb2:Below w1.heap.size w1 W2:=by rw [←hW2];exact (Below.refl _ _).alloc (Kaq _) _
 have hs1:W0.heap.size≤w1.heap.size:=hd1.gr.size;have hs2:=hb2.size
 have HD2:=Q02 ((HD0.out.step hd1.cur hd1.gr).below hk (hb2.mono (by omega)))
 have HR2:=Q02 ((hb2.block _ (by omega)).trans (Q09 hd1.gr hs0 (by omega) HR0.out))
 have HRP:=Q02 (Q5Z key o c cs W2 (ownL.rds (L:=Q3N) (Q03 hin.1 hb2)) hkey hl hrun)
 have j0:W2.cell? ⟨w1.heap.size,0,none⟩=some (.int .i64 key):=by rw [←hW2];simp [go_sem]
 have j1:W2.cell? ⟨w1.heap.size,1,none⟩=some (.slice o cs.length c):=by rw [←hW2];simp [go_sem]
 clear hd1 hin HR0 HD0 hb2 hrun hj;obtain ⟨n,hn⟩:∃n,cs.length=n:=⟨_,rfl⟩
 rw [hn] at hW2 j1 HRP ⊢
 have HN:=Q02 hn;obtain ⟨sv,hsv⟩:∃s,Q0e cs cs.length=s:=⟨_,rfl⟩
 rw [hn] at hsv hl hl10
 rw [hsv] at HRP
 rw [hn,hsv] at HSE
 obtain ⟨rg,hrg⟩:∃s,Q1f cs n=s:=⟨_,rfl⟩
 rw [hrg] at HRP
 have HRG:=Q02 (show 1≤rg.length∧rg.length≤3 by rw [←hrg];exact ⟨QcX cs n,Q6L cs n⟩)
 clear hsv hrg hn
 go_wp2_with fail
 refine (HRP.out).mono ?_
 rintro e w3 ⟨oB,cB,oR,cR,hs,rfl,owB,owR,pt,hs3,hb⟩
 have HOB:=Q02 owB;have HOR:=Q02 owR;have HG:=Q02 (Qgf pt)
 have HD3:=Q02 (HD2.out.below hk (hb.mono (by omega)))
 have HR3:=Q02 ((hb.block _ (by omega)).trans HR2.out)
 have hs3':=hb.size;clear owB owR pt hb HRP HR2 HD2
 have HFI:=Q02 (Q77 key sv rg (by have:=HSE.out.2;omega) HRG.out.2)
 have HSM:=Q02 (Qan key rg HRG.out.1 HRG.out.2);obtain ⟨lll,hlll⟩:∃s,Q13 key rg=s:=⟨_,rfl⟩
 rw [hlll] at HG HFI HSM
 clear hlll;have HRK:=Q02 (ownL.rds (L:=Q12) HOB.out)
 have hcb:=(fun e=> (InRow.cap (InRow.of HOB.out)) sv.length cB (by rw [e]):oB=none→cB=0)
 have HOW:=Q02 (Qbi key oB cB sv oR cR lll hs.length HG.out.1 w3 HRK.out hcb (by have:=HSE.out.2;omega) (RcR.mon.go (HG.out.rc HOR.out) (Kcq _) (Kaq _)) (by omega) HFI.out.2.2.2.1 HFI.out.2.2.2.2)
 have HHL:=Q02 HG.out.1;clear HRK hcb
 go_wp2_with fail
 refine (HOW.out).mono ?_
 rintro e w4 ⟨o2,c2,oQ,cQ,hq,rfl,h1,h2,h3,hb⟩
 have hr4:=(hb.block _ (by omega)).trans HR3.out
 have hs4:=hb.size;have r0:w4.cell? ⟨w.heap.size,0,none⟩=some (.int .i64 0):=Q00 hr4 0 _ rfl;have fr0:w4.frozen? ⟨w.heap.size,0,none⟩=false:=Q01 hr4 0;have r1:w4.cell? ⟨w.heap.size,1,none⟩=some (.slice none 0 0):=Q00 hr4 1 _ rfl;have fr1:w4.frozen? ⟨w.heap.size,1,none⟩=false:=Q01 hr4 1;have r2:w4.cell? ⟨w.heap.size,2,none⟩=some (.slice none 0 0):=Q00 hr4 2 _ rfl;have fr2:w4.frozen? ⟨w.heap.size,2,none⟩=false:=Q01 hr4 2
 have HFF:Hid (Q1i (setP w4 w.heap.size (.int .i64 key) (.slice o2 sv.length c2) (.slice oQ hs.length cQ)) w.heap.size (.slice o2 sv.length c2) sv∧ownL Q0C 51 (setP w4 w.heap.size (.int .i64 key) (.slice o2 sv.length c2) (.slice oQ hs.length cQ)) w.heap.size (.slice oQ hs.length cQ) hq∧GTabs (setP w4 w.heap.size (.int .i64 key) (.slice o2 sv.length c2) (.slice oQ hs.length cQ)) w.heap.size hq lll∧Dr k w (setP w4 w.heap.size (.int .i64 key) (.slice o2 sv.length c2) (.slice oQ hs.length cQ))):=by
  have g1:=Q06 hr4 0 (.int .i64 key);have g2:=Q06 g1 1 (.slice o2 sv.length c2)
  exact ⟨Q04 (Q0o (Q0o (Q0o h1 hr4 Q7p 0 _) g1 Q7p 1 _) g2 Q7p 2 _) (by omega),Q04 (Q0o (Q0o (Q0o h2 hr4 Q9a 0 _) g1 Q9a 1 _) g2 Q9a 2 _) (by omega),GTabs.mono (((h3.putB hr4 0 _).putB g1 1 _).putB g2 2 _) (by omega),(HD3.out.below hk (hb.mono (by omega))).below hk (Q0A (Below.refl _ _) (Kaq _) _ _ _)⟩
 clear h1 h2 h3 hb hr4 HOW HOB HOR HG HD3 HR3
 go_wp2
 refine bodyPost_ret (v:=plv key (.slice o2 sv.length c2) (.slice oQ hs.length cQ)) (by simp [results,Tryz.results134,go_sem,r0,r1,r2]) rfl ⟨key,sv,lll,hq,o2,c2,oQ,cQ,by rw [←HHL.out],HSE.out.2,HSM.out,HFF.out.1,by rw [←HHL.out];exact HFF.out.2.1,HFF.out.2.2.1,HFF.out.2.2.2⟩
theorem Qd1 (out:List Int) (x y:Int):y∈Q6U out x↔y∈out∨y=x:=by
 unfold Q6U
 by_cases h:out.contains x=true
 ·rw [if_pos h]
  have hx:x∈out:=by simpa using h
  exact ⟨fun h=> .inl h,fun h=> h.elim id (fun e=> by rw [e];exact hx)⟩
 ·rw [if_neg h];simp
theorem Qc3 (l:List Int):∀(out:List Int) (y:Int),y∈Q2K out l↔y∈out∨y∈l:=by
 induction l with
 |nil=> intro out y;simp [Q2K]
 |cons a l ih=>
  intro out y
  show y∈Q2K (Q6U out a) l↔_
  rw [ih,Qd1]
  simp [or_assoc]
theorem Q9b (b:Nat) (R:List (List (List Int))):∀(out:List Int) (y:Int),y∈R.foldl (fun out t=> Q2K out (t.getD b [])) out↔y∈out∨∃t∈R,y∈t.getD b []:=by
 induction R with
 |nil=> intro out y;simp
 |cons a R ih=>
  intro out y
  rw [List.foldl_cons,ih,Qc3]
  constructor
  ·rintro ((h|h)|⟨t,h1,h2⟩)
   ·exact .inl h
   ·exact .inr ⟨a,by simp,h⟩
   ·exact .inr ⟨t,by simp [h1],h2⟩
  ·rintro (h|⟨t,h1,h2⟩)
   ·exact .inl (.inl h)
   ·rcases List.mem_cons.1 h1 with e|h1
    ·subst e;exact .inl (.inr h2)
    ·exact .inr ⟨t,h1,h2⟩
theorem Qaq {out:List Int} (x:Int) (h:out.Nodup):(Q6U out x).Nodup:=by
 unfold Q6U
 by_cases hc:out.contains x=true
 ·rw [if_pos hc];exact h
 ·rw [if_neg hc]
  have hx:x∉out:=by simpa using hc
  rw [List.nodup_append]
  exact ⟨h,by simp,fun a ha b hb e=> by simp at hb;subst hb;subst e;exact hx ha⟩
theorem Q9J (l:List Int):∀{out:List Int},out.Nodup→(Q2K out l).Nodup:=by
 induction l with
 |nil=> intro out h;exact h
 |cons a l ih=> intro out h;exact ih (Qaq a h)
theorem Q7y (b:Nat) (R:List (List (List Int))):∀{out:List Int},out.Nodup→(R.foldl (fun out t=> Q2K out (t.getD b [])) out).Nodup:=by
 induction R with
 |nil=> intro out h;exact h
 |cons a R ih=> intro out h;exact ih (Q9J _ h)
theorem Q82:∀(n:Nat) (l:List Int),l.Nodup→(∀x∈l,0≤x∧x < (n:Int))→l.length≤n
 |0,l,_,h=> by
  cases l with
  |nil=> simp
  |cons a l=> have:=h a (by simp);omega
 |n+1,l,hd,h=> by
  by_cases hn:((n:Int))∈l
  ·have h1:=Q82 n (l.erase (n:Int)) (hd.erase _) (fun x hx=> by
    have hx':=(List.Nodup.mem_erase_iff hd).1 hx;have:=h x hx'.2;have hne:=hx'.1
    omega)
   rw [List.length_erase_of_mem hn] at h1
   omega
  ·have h1:=Q82 n l hd (fun x hx=> by
    have:=h x hx
    have hne:x≠(n:Int):=fun e=> hn (e ▸ hx)
    omega)
   omega
theorem Qb7 {l:List Int} (h:Q0O l=true):∀x∈l,0≤x∧x < 6:=by
 intro x hx
 obtain ⟨j,hj,rfl⟩:=List.getElem_of_mem hx
 cases hid:idB (l[j]) with
 |true=> unfold idB at hid;simp at hid;omega
 |false=>
  have hb:=Qcl (l:=l) hj (by rw [List.getD_eq_getElem?_getD,List.getElem?_eq_getElem hj];exact hid)
  rw [hb] at h
  cases h
theorem RiV.grow {α:Type} {L:Lay α} {a b:Nat} {w w':World} {v:Value} {l:List α} {r:Option Nat} (h:RiV L a b w v l) (hg:w.grownBy w' r) (ho:∀g,r=some g→g < a∨b≤g):RiV L a b w' v l:=by
 cases r with
 |none=> exact h.step (Stp.grown (lo:=0) (hi:=0) hg (fun b e=> by cases e)) (.inl (Kcq _))
 |some g=> exact h.step (Stp.grown (lo:=g) (hi:=g+1) hg (fun b e=> by injection e with e;omega)) (by have:=ho g rfl;omega)
theorem Qfa (f:Pt) (b:Nat) (h:b < 8):(ptA f)[b * 3]? =some (.bool (f b).1)∧(ptA f)[b * 3+1]? =some (.int .i64 (f b).2.1)∧(ptA f)[b * 3+2]? =some (.int .i64 (f b).2.2):=by
 have h1:∀j,j < 3→(ptA f)[b * 3+j]? =(Qfc.cs (((List.range 8).map f).getD b Qfc.d))[j]? :=fun j hj=> by
  have:=Q4h Qfc ((List.range 8).map f) b j (by simpa using h) hj
  rw [show Qfc.k=3 from rfl] at this
  unfold ptA ptL
  rw [List.getElem?_toArray]
  exact this
 have e:((List.range 8).map f).getD b Qfc.d=f b:=by simp [h]
 rw [e] at h1
 exact ⟨h1 0 (by decide),h1 1 (by decide),h1 2 (by decide)⟩
theorem QgY (R:List (List (List Int))) (i:Nat) (h:i < R.length):(R.map Q2P).getD i ptZ=Q2P (R.getD i []):=by simp [h]
theorem Q5M (v:Value) (m:Pm) (q:Int) (w:World) (hR:Q9S w.heap.size w v m) (hf:Q36 m):
  Calls Tryz.prog 92 #[v,.int .i64 q] w fun e w'=> ∃v',e=.returned v'∧Q9u w' w.heap.size v' (Qee m q)∧Below w.heap.size w w':=by
 have HCM:=Q02 (show Qee m q=if (Q21 m && decide (0≤q) && decide (q < 8))=true then Q2h m.ring q.toNat else [] from rfl)
 have HFA:=Q02 (fun h:Q21 m=true=> Q1q h)
 obtain ⟨vb,vr,rfl,hvb,rr⟩:=hR;obtain ⟨o,c,rfl,r⟩:=hvb.open;obtain ⟨oR,cR,rfl⟩:=RiR.len rr;obtain ⟨key,l,lll⟩:=m
 dsimp only at *
 clear hvb;obtain ⟨W0,hW0⟩:∃W,(w.alloc (.cells #[.int .i64 key,.slice o l.length c,.slice oR lll.length cR] 29))=W:=⟨_,rfl⟩
 have hb_W0:Below w.heap.size w W0:=by rw [←hW0];exact (Below.refl _ _).alloc (Kaq _) _
 have HB:=Q02 hb_W0;clear hb_W0
 have zz:w.heap.size < W0.heap.size:=by rw [←hW0];simp
 obtain ⟨z0,z1,z2⟩:=alc3v0v1 hW0;have HPF:=Q02 (Q7f key o c l oR cR lll lll.length rfl W0 ((r.kept HB.out (Kaq _)).le HB.out.size) (RiR.mon.go (RiR.stp.go rr (Stp.of (lo:=0) (hi:=0) HB.out) (.inl (Kcq _))) (Kaq _) HB.out.size) hf)
 have HBU:=Q02 (fun W=> Q2f q W)
 clear r rr
 go_enter Tryz.func92,Tryz.ntmps92
 go_wp2_with fail
 refine HPF.out.mono ?_
 rintro e v1 ⟨vP,rfl,h1,h2,hb⟩
 have HB1:=Q02 (HB.out.trans (hb.mono HB.out.size));clear hb HPF HB z0 z1 z2 zz
 cases hp:Q21 ⟨key,l,lll⟩ with
 |false=>
  rw [hp] at HCM
  have e2:=h2 hp;subst e2;clear h1 h2
  go_wp2
  go_ret
  exact ⟨_,rfl,by rw [HCM.out];exact World.ownsRow_nil _ _ _ _,HB1.out.alloc HB1.out.size _⟩
 |true=>
  rw [hp] at HCM
  obtain ⟨o2,c2,e2,hown⟩:=h1 hp;have HF:=Q02 (HFA.out hp);subst e2;have HOT:=Q02 (ownL.rds (L:=Q1T) hown);clear h1 h2 HFA hown hp
  by_cases h0:q < 0
  ·have eb:(decide (0≤q) && decide (q < 8))=false:=by simp;omega
   rw [eb] at HBU
   clear eb
   go_wp2_with (first|(go_at_call 143;refine (HBU.out _).mono ?_;rintro e w1 ⟨rfl,rfl⟩))
   go_ret
   exact ⟨_,rfl,by rw [HCM.out,if_neg (by simp;omega)];exact World.ownsRow_nil _ _ _ _,HB1.out.alloc HB1.out.size _⟩
  by_cases h8:8≤q
  ·have eb:(decide (0≤q) && decide (q < 8))=false:=by simp;omega
   rw [eb] at HBU
   clear eb
   go_wp2_with (first|(go_at_call 143;refine (HBU.out _).mono ?_;rintro e w1 ⟨rfl,rfl⟩))
   go_ret
   exact ⟨_,rfl,by rw [HCM.out,if_neg (by simp;omega)];exact World.ownsRow_nil _ _ _ _,HB1.out.alloc HB1.out.size _⟩
  obtain ⟨b,rfl⟩:∃b:Nat,q=(b:Int):=⟨q.toNat,by omega⟩
  have hb8:b < 8:=by omega
  have hb8':(b:Int) < 8:=by omega
  have eb:(decide (0≤(b:Int)) && decide ((b:Int) < 8))=true:=by simp;omega
  rw [eb] at HBU
  have HCM2:=Q02 (show Qee ⟨key,l,lll⟩ (b:Int)=Q2h lll b by rw [HCM.out,if_pos (by simp;omega)];simp)
  clear eb HCM h0 h8;obtain ⟨n,hn⟩:∃n,lll.length=n:=⟨_,rfl⟩
  rw [hn]
  have HNN:=Q02 hn
  have hn3:n≤3:=by rw [←hn];exact HF.out.2.2.2.1
  clear hn;obtain ⟨W1,hW1⟩:∃W,v1.alloc (.cells #[.int .i64 key,.slice o l.length c,.slice o2 n c2] 127)=W:=⟨_,rfl⟩
  have hb1:Below v1.heap.size v1 W1:=by rw [←hW1];exact (Below.refl _ _).alloc (Kaq _) _
  have zz:v1.heap.size < W1.heap.size:=by rw [←hW1];simp
  have z2:W1.cell? ⟨v1.heap.size,2,none⟩=some (.slice o2 n c2):=by rw [←hW1];simp [go_sem]
  have HB2:=Q02 (HB1.out.trans (hb1.mono HB1.out.size));have HV:=Q02 hb1;clear hb1
  go_wp2_with (first|(go_at_call 143;refine (HBU.out _).mono ?_;rintro e w1 ⟨rfl,rfl⟩))
  go_loopw [7,27] (fun ov iv wr=> ∃i:Nat,i≤n∧iv=.int .i64 (i:Int)∧Hid (Q9u wr W1.heap.size ov (Q2h (lll.take i) b))∧(Q2h (lll.take i) b).length≤2 * i∧Hid (Below W1.heap.size W1 wr))
   (fun _ iv _=> n - (intOf iv).toNat)
  case atStart=> exact ⟨0,Kcq _,rfl,World.ownsRow_nil _ _ _ _,by simp [Q2h],Below.refl _ _⟩
  case round=>
   rename World=> wr
   rename_i ov _
   obtain ⟨i,hi',rfl,HO,hL,HBr⟩:=hrel
   by_cases hlt:i < n
   ·have hlt':(i:Int) < (n:Int):=by omega
    have hif:i < lll.length:=by rw [HNN.out];exact hlt
    have HRD:=Q02 (HOT.out.kept (HV.out.trans (HBr.out.mono HV.out.size)) (Kaq _))
    rcases HRD.out with hh|⟨b1,off,rfl,hbl,hrow⟩
    ·have:(lll.map Q2P).length=0:=by rw [hh];rfl
     rw [List.length_map] at this;omega
    have HRG:=Q02 (RdL.range hrow i (by rw [List.length_map];exact hif))
    have HTK:=Q02 (Qcd lll b i hif);have hrow2:=(Q47 (HF.out.2.2.2.2 i hif)).2 b hb8;clear hrow HRD
    rw [QgY lll i hif] at HRG
    obtain ⟨f,hf'⟩:∃f,Q2P (lll.getD i [])=f:=⟨_,rfl⟩
    rw [hf'] at HRG
    have HIP:=Q02 (show Q2A (f b)=(lll.getD i []).getD b [] by rw [←hf'];exact Q3X hrow2)
    have hy9:=Q8y hrow2;clear hf' hrow2;obtain ⟨row,hrw⟩:∃row,(lll.getD i []).getD b []=row:=⟨_,rfl⟩
    rw [hrw] at HIP hy9 HTK
    clear hrw;obtain ⟨bas,hbs⟩:∃q,Q2h (lll.take i) b=q:=⟨_,rfl⟩
    rw [hbs] at HO hL HTK
    clear hbs;obtain ⟨W2,hW2⟩:∃W,wr.alloc (.cells (ptA f) 188)=W:=⟨_,rfl⟩
    have hb2:Below wr.heap.size wr W2:=by rw [←hW2];exact (Below.refl _ _).alloc (Kaq _) _
    have hz5:W2.heap[wr.heap.size]? =some (.cells (ptA f) 188 (0,0)):=by rw [←hW2];exact World.alloc_heap_new wr _
    have hpc:=Qfa f b hb8;have y0:W2.cell? ⟨wr.heap.size,b * 3,none⟩=some (.bool (f b).1):=Q00 hz5 _ _ hpc.1;have y1:W2.cell? ⟨wr.heap.size,b * 3+1,none⟩=some (.int .i64 (f b).2.1):=Q00 hz5 _ _ hpc.2.1;have y2:W2.cell? ⟨wr.heap.size,b * 3+2,none⟩=some (.int .i64 (f b).2.2):=Q00 hz5 _ _ hpc.2.2;have HLS:=Q02 (Qbm (f b) W2);have hs2:=hb2.size;have HB3:=Q02 (HBr.out.trans (hb2.mono HBr.out.size))
    have HLT:=Q02 (fun g e=> (HO.out.lt g e).2)
    have HO2:=Q02 (Q03 HO.out hb2);clear hb2 hz5 hpc HO HBr
    go_wp2_with (first|(refine wpList_load_mid rfl 188 (.tmp 29) rfl b1 (off+i * 24) rfl (ptL f) _ HRG.out ptU rfl ptI ?_)|(refine Q0M rfl (.tmp 9) (.tmp 30) rfl wr.heap.size f ptZ rfl rfl (World.alloc_heap_new wr _) ?_;rw [World.setRow_alloc_new,hW2])|fail)
    refine HLS.out.mono ?_
    rintro e v3 ⟨o4,c4,rfl,ow4,hb4⟩
    have HRL:=Q02 (InRow.ri (InRow.of ow4))
    rw [HIP.out] at HRL ⊢
    have hs4:=hb4.size;have HO4:=Q02 (Q03 HO2.out hb4);have HB4:=Q02 (HB3.out.trans (hb4.mono HB3.out.size));clear ow4 hb4 HO2 HB3 HLS y0 y1 y2;obtain ⟨m,hm⟩:∃r,row.length=r:=⟨_,rfl⟩
    rw [hm] at hy9 HRL ⊢
    have HM:=Q02 hm;clear hm
    go_wp2
    go_loopw [7,36] (fun ov kv wq=> ∃k:Nat,k≤m∧kv=.int .i64 (k:Int)∧Hid (Q9u wq W1.heap.size ov (Q2K bas (row.take k)))∧(Q2K bas (row.take k)).length≤2 * i+k∧Hid (Below W1.heap.size W1 wq)∧Hid (RiV Q2e W2.heap.size v3.heap.size wq (.slice o4 m c4) row)∧v3.heap.size≤wq.heap.size∧Hid (∀g,ov.ownBlock=some g→g < W2.heap.size∨v3.heap.size≤g))
     (fun _ kv _=> m - (intOf kv).toNat)
    case atStart=> exact ⟨0,Kcq _,rfl,HO4.out,by simpa [Q2K] using hL,HB4.out,HRL.out,Kaq _,fun g e=> .inl (by have:=HLT.out g e;omega)⟩
    case round=>
     rename World=> wq
     rename_i ov2 _
     obtain ⟨k,hk',rfl,HO2,hL2,HBq,HRq,hs5,HGq⟩:=hrel;clear HO4 HB4 HRL HRG HLT
     by_cases hlk:k < m
     ·have hlk':(k:Int) < (m:Int):=by omega
      have hkr:k < row.length:=by rw [HM.out];exact hlk
      obtain ⟨o5,c5,e6,hr5⟩:=RiV.open HRq.out
      injection e6 with e7 e8 e9
      subst e7
      rcases hr5 with hh|⟨b3,off3,rfl,hb3,hcell⟩
      ·rw [hh] at hkr;exact absurd hkr (Nat.not_lt_zero _)
      have hc3:wq.cell? ⟨b3,off3+k,none⟩=some (.int .i64 (row.getD k 0)):=RdL.int hcell k hkr;have HTK2:=Q02 (QaE bas row k hkr);clear hcell e8 e9;obtain ⟨y,hy⟩:∃y,row.getD k 0=y:=⟨_,rfl⟩
      rw [hy] at hc3 HTK2
      clear hy;obtain ⟨cur,hcu⟩:∃q,Q2K bas (row.take k)=q:=⟨_,rfl⟩
      rw [hcu] at HO2 hL2 HTK2
      clear hcu;obtain ⟨oo,co,e5,hrd⟩:=ownL.open (L:=Q2e) HO2.out;subst e5
      have HH:=Q02 (Q9q oo co cur y wq hrd (by omega))
      clear hrd
      go_wp2_with fail
      refine HH.out.mono ?_
      rintro e w4 ⟨rfl,rfl⟩
      clear HH
      cases hh:cur.contains y with
      |true=>
       have HY:=Q02 (Qem hh)
       go_wp2
       go_roundw
       case rel=> exact ⟨k+1,by omega,by go_num,by rw [HTK2.out,HY.out];exact HO2.out,by rw [HTK2.out,HY.out];omega,HBq.out,HRq.out,hs5,HGq.out⟩
       case measure=> simp [intOf];omega
      |false=>
       have HY:=Q02 (Qf9 hh);have hsq:=HBq.out.size;have HA:=Q02 (World.ownsRow.alloc HO2.out (.cells #[.int .i64 y] 3));have HRA:=Q02 (HRq.out.step (Stp.of (lo:=0) (hi:=0) ((Below.refl w4.heap.size w4).alloc (Kaq _) (.cells #[.int .i64 y] 3))) (.inl (Kcq _)))
       go_wp2_with (first|(at_builtin;refine Q07 QhE rfl (.tmp 44) (.tmp 46) rfl W1.heap.size _ cur rfl HA.out (some ⟨w4.heap.size,0,none⟩) 1 _ [y] 1 rfl rfl (by simp) QgN (by simp;omega) (by simp;omega) ?_))
       intro v5 w5 ho5 hg5 hn5
       have HB5:=Q02 ((HBq.out.alloc HBq.out.size _).grown hg5 (by simp;omega) (fun k h=> (HA.out.lt k h).1))
       have HO5:=Q02 ho5;have HR5:=Q02 (HRA.out.grow hg5 HGq.out)
       have hs6:v3.heap.size≤w5.heap.size:=by have:=hg5.size;simp at this;omega
       have HG5:Hid (∀g,v5.ownBlock=some g→g < W2.heap.size∨v3.heap.size≤g):=fun g e=> by
        rcases hn5 with hn5|hn5
        ·rw [hn5] at e;exact HGq.out g e
        ·rw [hn5] at e;have:=Option.some.inj e;omega
       clear hg5 ho5 hn5
       go_wp2
       go_roundw
       case rel=> exact ⟨k+1,by omega,by go_num,by rw [HTK2.out,HY.out];exact HO5.out,by rw [HTK2.out,HY.out,List.length_append];simp;omega,HB5.out,HR5.out,hs6,HG5.out⟩
       case measure=> simp [intOf];omega
     ·have e:k=m:=by omega
      subst e
      rw [←HM.out,List.take_length,←HTK.out] at HO2 hL2
      go_wp2
      go_roundw
      case rel=> exact ⟨i+1,by omega,by go_num,HO2.out,by rw [HM.out] at hL2;omega,HBq.out⟩
      case measure=> simp [intOf];omega
   ·have e:i=n:=by omega
    subst e
    rw [←HNN.out,List.take_length] at HO
    have HBW:=Q02 (HB2.out.trans (HBr.out.mono HB2.out.size))
    go_wp2
    go_ret
    exact ⟨_,rfl,by rw [HCM2.out];exact Q04 HO.out HB2.out.size,HBW.out⟩
end Go.Proofs.YtpneolgdghbinaaGreat
