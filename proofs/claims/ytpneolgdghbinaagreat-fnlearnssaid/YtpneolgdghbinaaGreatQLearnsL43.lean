/- The program's nextToGo: which hint leaves first. -/
import Derived.Test.YtpneolgdghbinaaGreatQLearnsL30
namespace Go.Proofs.YtpneolgdghbinaaGreat
open Go.ChangeShapes Go.WideShapes Go.ChangeAt Go.RowKit Go.Joins
set_option linter.unusedVariables false
set_option linter.unusedSimpArgs false
set_option maxRecDepth 100000
set_option maxHeartbeats 40000000
def lvT (l:List Sl) (now:Int) (j:Nat):Int:=max (at' l j).t now
def Qb7 (l:List Sl) (now:Int) (j:Nat):List Sc:=((List.range j).filter (fun i=> (at' l i).u)).map (fun i=> (lvT l now i,(i:Int)))
theorem Q6T {l:List Sl} {now:Int} {j:Nat} {z:Sc}:z∈Qb7 l now j↔∃i,i < j∧(at' l i).u=true∧(lvT l now i,(i:Int))=z:=by
 simp [Qb7,and_assoc]
theorem QcG {l:List Sl} {now:Int} {j:Nat} (h:(at' l j).u=true):Qb7 l now (j+1)=Qb7 l now j++[(lvT l now j,(j:Int))]:=by
 have e:List.filter (fun i=> (at' l i).u) [j]=[j]:=by show (match (at' l j).u with|true=> j::[]|false=> [])=[j];rw [h]
 unfold Qb7;rw [List.range_succ,List.filter_append,List.map_append,e];rfl
theorem QhM {l:List Sl} {now:Int} {j:Nat} (h:(at' l j).u=false):Qb7 l now (j+1)=Qb7 l now j:=by
 unfold Qb7;rw [List.range_succ,List.filter_append,List.map_append,List.filter_cons_of_neg (by rw [h];decide)];simp
theorem Qcp {l:List Sl} {now:Int} {j:Nat}:(lvT l now j,(j:Int))∉Qb7 l now j:=fun h=> by
 obtain ⟨i,hi,_,e⟩:=Q6T.1 h;have:=(Prod.mk.inj e).2;omega
def Qb4 (l:List Sl) (now:Int) (j:Nat):Prop:=j < l.length∧(at' l j).u=true∧∀i,i < l.length→(at' l i).u=true→16 * lvT l now j+(j:Int)≤16 * lvT l now i+(i:Int)
def Qfk (l:List Sl):Prop:=∀i,i < l.length→(at' l i).u=false
theorem Dep.BrdV.kept {k:Nat} {v:Value} {w w':World} {l:List Sc} (h:Dep.BrdV k v w l) (hb:Below w.heap.size w w'):Dep.BrdV k v w' l:=⟨(hb.block k h.lt).trans h.box,Q03 h.row hb⟩
theorem Qg4 {l:List Sl} {now:Int} {lb:List Sc} (g:Dep.HeapP lb lb.length) (c:Holds lb (Qb7 l now l.length)) (h:0 < lb.length):∃j,Qb4 l now j∧lb.getD 0 (0,0)=(lvT l now j,(j:Int)):=by
 have d:=(c.2.1 (lb.getD 0 (0,0))).1 ⟨0,h,rfl⟩;obtain ⟨j,k,f,e⟩:=Q6T.1 d;refine ⟨j,⟨k,f,fun i hi a=> ?_⟩,e.symm⟩;obtain ⟨q,n,m⟩:=(c.2.1 (lvT l now i,(i:Int))).2 (Q6T.2 ⟨i,hi,a,rfl⟩);have b:=Dep.heap_top g q n;unfold Dep.fr at b;rw [←e,m] at b;exact b
theorem Qed {l:List Sl} {now:Int} {lb:List Sc} (a:Holds lb (Qb7 l now l.length)) (b:lb.length=0):Qfk l:=fun i hi=> by
 cases hu:(at' l i).u with
 |false=> rfl
 |true=>
  obtain ⟨q,c,_⟩:=(a.2.1 (lvT l now i,(i:Int))).2 (Q6T.2 ⟨i,hi,hu,rfl⟩);omega
theorem Qaq (b off c n:Nat) (l:List Sl) (now:Int) (w:World) (hn:l.length=n) (aw:n≤16) (aj:b < w.heap.size) (hc:∀i,i < l.length→∀j,j < Q0g.k→w.cell? ⟨b,off+i * Q0g.k+j,none⟩=(Q0g.cs (l.getD i Q0g.d))[j]?):
  Calls Tryz.prog 110 #[tab (.slice (some ⟨b,off,none⟩) n c),.int .i64 now] w fun e w'=> ((∃j,Qb4 l now j∧e=.returned (.tuple #[.agg #[.int .i64 (lvT l now j),.int .i64 j],.bool true]))∨(Qfk l∧e=.returned (.tuple #[.agg #[.int .i64 0,.int .i64 0],.bool false])))∧Below w.heap.size w w':=by
 obtain ⟨Wa,H⟩:∃W,(w.alloc (.cells #[.slice (some ⟨b,off,none⟩) n c] 91))=W:=⟨_,rfl⟩;obtain ⟨Wb,I⟩:∃W,(Wa.alloc (.cells #[.int .i64 0,.int .i64 0] 172))=W:=⟨_,rfl⟩;obtain ⟨O,T⟩:∃W,(Wb.alloc (.cells #[.slice none 0 0] 213))=W:=⟨_,rfl⟩
 have ha:Wa.heap.size=w.heap.size+1:=by rw [←H];simp
 have U:Wb.heap.size=w.heap.size+2:=by rw [←I];simp [ha]
 have av:O.heap.size=w.heap.size+3:=by rw [←T];simp [U]
 have ba:=alb0v0v1 H;have bb:=alb0v0v1 I;have bc:=alb0v0v1 T;have ac:Below w.heap.size w O:=(ba.trans (bb.mono (by omega))).trans (bc.mono (by omega))
 have k0:O.heap[w.heap.size]? =some (.cells #[.slice (some ⟨b,off,none⟩) n c] 91 (0,0)):=by
  rw [bc.block _ (by omega),bb.block _ (by omega),←H];exact heap_alloc_new w _
 have k1:O.heap[w.heap.size+1]? =some (.cells #[.int .i64 0,.int .i64 0] 172 (0,0)):=by
  rw [bc.block _ (by omega),←I,←ha];exact heap_alloc_new Wa _
 have k2:O.heap[w.heap.size+2]? =some (.cells #[.slice none 0 0] 213 (0,0)):=by
  rw [←T,←U];exact heap_alloc_new Wb _
 subst H I;clear ha U ba bb bc
 have z0:O.cell? ⟨w.heap.size,0,none⟩=some (.slice (some ⟨b,off,none⟩) n c):=by simp [World.cell?,k0]
 have ak:=Q01 k1;have an:=Q01 k2;have N:=Q01 ac;have HN:=Q01 hn;have HC:=Q01 hc;clear k0 k1 k2 ac hn hc;go_enter Tryz.func110,Tryz.ntmps110;go_wp2
 go_loopw [14] (fun iv wr=> ∃(j:Nat) (v:Value) (lb:List Sc),iv=.int .i64 j∧j≤n∧Dep.BrdV (w.heap.size+2) v wr lb∧Dep.HeapP lb lb.length∧Dep.okD lb∧Holds lb (Qb7 l now j)∧lb.length≤j∧Below (w.heap.size+2) O wr)
  (fun iv _=> n - (intOf iv).toNat)
 case atStart=>
  refine ⟨0,.slice none 0 0,[],rfl,Kcq _,⟨an.out,World.ownsRow_nil _ _ _ _⟩,fun i h1 h2=> by simp at h2,fun i hi=> by simp at hi,⟨rfl,fun z=> by simp [Qb7],fun i j hi=> by simp at hi⟩,Kcq _,Below.refl _ _⟩
 case round=>
  obtain ⟨j,v,lb,rfl,hj,y,Y,ho,h,ar,a⟩:=hrel
  by_cases hlt:j < n
  ·have aa:=HC.out j (by rw [HN.out];exact hlt)
   have M:∀q u,q < 5→(Q0g.cs (at' l j))[q]? =some u→wr.cell? ⟨b,off+j * 5+q,none⟩=some u:=fun q u M e=> by
    have h1:=aa q M;have h2:=N.out.cell (p:=⟨b,off+j * Q0g.k+q,none⟩) aj;have h3:=a.cell (p:=⟨b,off+j * Q0g.k+q,none⟩) (show b < w.heap.size+2 by omega);exact h3.trans (h2.trans (h1.trans e))
   obtain ⟨su,sa,sp,sv,st,f⟩:∃su sa sp sv st,at' l j=⟨su,sa,sp,sv,st⟩:=⟨_,_,_,_,_,rfl⟩;have c0:wr.cell? ⟨b,off+j * 5,none⟩=some (.bool su):=M 0 _ (by decide) (by rw [f];rfl);have c1:wr.cell? ⟨b,off+j * 5+1,none⟩=some (.int .i64 sa):=M 1 _ (by decide) (by rw [f];rfl);have c2:wr.cell? ⟨b,off+j * 5+2,none⟩=some (.int .i64 sp):=M 2 _ (by decide) (by rw [f];rfl);have c3:wr.cell? ⟨b,off+j * 5+3,none⟩=some (.int .i64 sv):=M 3 _ (by decide) (by rw [f];rfl);have c4:wr.cell? ⟨b,off+j * 5+4,none⟩=some (.int .i64 st):=M 4 _ (by decide) (by rw [f];rfl);clear M aa;have au:=a.size
   cases su with
   |false=>
    have Z:=Q01 (show Holds lb (Qb7 l now (j+1)) by rw [QhM (by rw [f])];exact h);have HB:=Q01 y;have s:=Q01 a;clear h y a f;go_wp2;go_roundw
    case rel=> exact ⟨j+1,v,lb,by go_num,by omega,HB.out.kept ((Below.refl _ _).alloc (Kaq _) _),Y,ho,Z.out,by omega,s.out.alloc (by omega) _⟩
    case measure=> simp [intOf];omega
   |true=>
    obtain ⟨W1,ab⟩:∃W,(wr.alloc (.cells #[.bool true,.int .i64 sa,.int .i64 sp,.int .i64 sv,.int .i64 st] 165))=W:=⟨_,rfl⟩;have r:=alb0v0v1 ab;have kx:=alx0v0v1 ab
    have x0:W1.cell? ⟨wr.heap.size,0,none⟩=some (.bool true):=by simp [World.cell?,kx]
    have x4:W1.cell? ⟨wr.heap.size,4,none⟩=some (.int .i64 st):=by simp [World.cell?,kx]
    clear kx
    by_cases h9:st < now
    ·skip
     have m:lvT l now j=now:=by unfold lvT;rw [f];simp only;omega
     have Z:=Q01 (fun l2 (h2:Same (lb++[(now,(j:Int))]) l2 (lb.length+1))=> (show Holds l2 (Qb7 l now (j+1)) by rw [QcG (by rw [f]),m];exact h.push (by have h8:=Qcp (l:=l) (now:=now) (j:=j);rw [m] at h8;exact h8) h2));have HL:=Q01 (fun l2 (h2:Same (lb++[(now,(j:Int))]) l2 (lb.length+1))=> (show l2.length≤j+1 by rw [h2.1];simp;omega));have A:=Q01 (Dep.pushH_any (w.heap.size+2) v lb now j W1 (y.kept r) ho ⟨by simp,by simp;omega⟩ Y (by omega));have P:=Q01 (a.trans (r.mono (by omega)));clear h y a f m r;go_wp2_with fail;refine A.out.mono ?_
     rintro e w2 ⟨rfl,g2,ap,l2,E,F,C,B,D⟩;have t:=Q01 (And.intro E (And.intro F (And.intro C (And.intro B D))));clear E F C B D c0 c1 c2 c3 c4 x0 x4 A;go_wp2;go_roundw
     case rel=> exact ⟨j+1,_,l2,by go_num,by omega,t.out.1.v,t.out.2.1,t.out.2.2.2.1,Z.out l2 t.out.2.2.1,HL.out l2 t.out.2.2.1,P.out.trans t.out.2.2.2.2⟩
     case measure=> simp [intOf];omega
    ·skip
     have m:lvT l now j=st:=by unfold lvT;rw [f];simp only;omega
     have Z:=Q01 (fun l2 (h2:Same (lb++[(st,(j:Int))]) l2 (lb.length+1))=> (show Holds l2 (Qb7 l now (j+1)) by rw [QcG (by rw [f]),m];exact h.push (by have h8:=Qcp (l:=l) (now:=now) (j:=j);rw [m] at h8;exact h8) h2));have HL:=Q01 (fun l2 (h2:Same (lb++[(st,(j:Int))]) l2 (lb.length+1))=> (show l2.length≤j+1 by rw [h2.1];simp;omega));have A:=Q01 (Dep.pushH_any (w.heap.size+2) v lb st j W1 (y.kept r) ho ⟨by simp,by simp;omega⟩ Y (by omega));have P:=Q01 (a.trans (r.mono (by omega)));clear h y a f m r;go_wp2_with fail;refine A.out.mono ?_
     rintro e w2 ⟨rfl,g2,ap,l2,E,F,C,B,D⟩;have t:=Q01 (And.intro E (And.intro F (And.intro C (And.intro B D))));clear E F C B D c0 c1 c2 c3 c4 x0 x4 A;go_wp2;go_roundw
     case rel=> exact ⟨j+1,_,l2,by go_num,by omega,t.out.1.v,t.out.2.1,t.out.2.2.2.1,Z.out l2 t.out.2.2.1,HL.out l2 t.out.2.2.1,P.out.trans t.out.2.2.2.2⟩
     case measure=> simp [intOf];omega
  ·have e:j=n:=by omega
   subst e;rw [←HN.out] at h;have g:wr.heap[w.heap.size+1]? =some (.cells #[.int .i64 0,.int .i64 0] 172 (0,0)):=(a.block (w.heap.size+1) (by omega)).trans ak.out;have hz:=a.size;obtain ⟨ov,cv,ah⟩:=y.slice;subst ah;have X:=y.cell
   by_cases h0:lb.length=0
   ·have al:=Q01 (Qed h h0)
    have f0:wr.frozen? ⟨w.heap.size+1,0,none⟩=false:=by simp [World.frozen?,g]
    have f1:wr.frozen? ⟨w.heap.size+1,1,none⟩=false:=by simp [World.frozen?,g]
    have y0:wr.cell? ⟨w.heap.size+1,0,none⟩=some (.int .i64 0):=by simp [World.cell?,g]
    have y1:wr.cell? ⟨w.heap.size+1,1,none⟩=some (.int .i64 0):=by simp [World.cell?,g]
    have s:=Q01 (N.out.trans (a.mono (by omega)));rw [h0] at X;clear h y a g h0;go_wp2_with (go_at_call 153;refine (Dep.dpLen_any _ _ _ _).mono ?_;rintro e w9 ⟨rfl,rfl⟩);refine bodyPost_ret (v:=.tuple #[.agg #[.int .i64 0,.int .i64 0],.bool false]) (by simp [results,Tryz.results110,go_sem,y0,y1]) rfl ⟨.inr ⟨al.out,rfl⟩, ?_⟩;exact (s.out.setCell (p:=⟨w.heap.size+1,0,none⟩) (by simp) _).setCell (p:=⟨w.heap.size+1,1,none⟩) (by simp) _
   ·obtain ⟨i,ad,ag⟩:=Qg4 Y h (by omega)
    have aq:¬((lb.length:Int)=0):=by omega
    obtain ⟨gq,cq,e9⟩:=ownsRow_form y.row (by omega);injection e9 with e8 _ e7;subst e8 e7;have L:Dep.Brd (w.heap.size+2) gq cv wr lb:=⟨y.box,y.row⟩;obtain ⟨nq,af⟩:∃nq,nq+1=lb.length:=⟨lb.length - 1,by omega⟩;have J:=Q01 (Dep.popH_any (w.heap.size+2) gq cv lb nq wr L af ho Y (by omega));rw [ag] at J;have ao:=Q01 ad;have s:=Q01 (N.out.trans (a.mono (by omega)));have HK:=Q01 g;obtain ⟨lv,R⟩:∃x,lvT l now i=x:=⟨_,rfl⟩;rw [R] at J;have ai:=Q01 R;obtain ⟨nl,ae⟩:∃x,lb.length=x:=⟨_,rfl⟩;rw [ae] at X aq
    have ta:=fun t0=> Dep.assertSc t0 lv i
    clear h y a g h0 ad ag L af R ae Y ho ar;go_wp2_with (go_at_call 153;refine (Dep.dpLen_any _ _ _ _).mono ?_;rintro e w9 ⟨rfl,rfl⟩);go_wp2_with fail;refine J.out.mono ?_;rintro e w3 ⟨rfl,V⟩;have G:w3.heap[w.heap.size+1]? =some (.cells #[.int .i64 0,.int .i64 0] 172 (0,0)):=(V.block (w.heap.size+1) (by omega)).trans HK.out
    have f0:w3.frozen? ⟨w.heap.size+1,0,none⟩=false:=by simp [World.frozen?,G]
    have f1:w3.frozen? ⟨w.heap.size+1,1,none⟩=false:=by simp [World.frozen?,G]
    have y0:w3.cell? ⟨w.heap.size+1,0,none⟩=some (.int .i64 0):=by simp [World.cell?,G]
    have y1:w3.cell? ⟨w.heap.size+1,1,none⟩=some (.int .i64 0):=by simp [World.cell?,G]
    have am:=Q01 (s.out.trans (V.mono (by omega)));clear V G HK J s X;go_wp2;refine bodyPost_ret (v:=.tuple #[.agg #[.int .i64 lv,.int .i64 i],.bool true]) (by simp [results,Tryz.results110,go_sem,y0,y1]) rfl ⟨.inl ⟨i,ao.out,by rw [ai.out]⟩, ?_⟩;exact (am.out.setCell (p:=⟨w.heap.size+1,0,none⟩) (by simp) _).setCell (p:=⟨w.heap.size+1,1,none⟩) (by simp) _
end Go.Proofs.YtpneolgdghbinaaGreat
