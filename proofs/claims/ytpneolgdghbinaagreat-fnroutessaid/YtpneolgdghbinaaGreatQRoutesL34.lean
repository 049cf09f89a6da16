/- Several texts in one: SDropI, SDropS, SExp2. -/
import Derived.Deep.LoopGhost
import Derived.Test.YtpneolgdghbinaaGreatQRoutesL29
namespace Go.Proofs.YtpneolgdghbinaaGreat
open Go.ChangeShapes Go.WideShapes Go.ChangeAt Go.RowKit Go.Joins
set_option linter.unusedVariables false
set_option linter.unusedSimpArgs false
set_option maxRecDepth 100000
set_option maxHeartbeats 40000000
theorem QeF {e:TypeId} {w:World} {base g n c:Nat} {m:List Sl} (h:w.ownsRow base e 5 (.slice (some ⟨g,0,none⟩) n c) n (m.flatMap Q0h.cs)) (d:n=m.length) (i:Nat) (hi:i < n):
  w.cell? ⟨g,i * 5,none⟩=some (.bool (m.getD i sl0).u)∧w.cell? ⟨g,i * 5+1,none⟩=some (.int .i64 (m.getD i sl0).a)∧w.cell? ⟨g,i * 5+2,none⟩=some (.int .i64 (m.getD i sl0).p)∧w.cell? ⟨g,i * 5+3,none⟩=some (.int .i64 (m.getD i sl0).v)∧w.cell? ⟨g,i * 5+4,none⟩=some (.int .i64 (m.getD i sl0).t):=by
 have b:=Q1J h d;have h2:=RdL.slot (C:=w.heap.size) b i (by omega)
 simpa only [Nat.zero_add] using h2
theorem Q7S (b off c:Nat) (l:List Sl) (a p:Int) (w:World) (hn:0 < l.length) (aW:l.length≤16) (hf:Q0n a p=true) (a2:Q58 l) (T:b < w.heap.size) (hc:∀i,i < l.length→∀j,j < Q0h.k→w.cell? ⟨b,off+i * Q0h.k+j,none⟩=(Q0h.cs (l.getD i Q0h.d))[j]?):
  Calls Tryz.prog 168 #[tab (.slice (some ⟨b,off,none⟩) l.length c),Q9j a p] w fun e w'=> ∃b' ag c',e=.returned (.tuple #[tab (.slice (some ⟨b',ag,none⟩) l.length c'),.bool (Q1w l a p).2])∧b' < w'.heap.size∧(∀i,i < (Q3N l a p).length→∀j,j < Q0h.k→w'.cell? ⟨b',ag+i * Q0h.k+j,none⟩=(Q0h.cs ((Q3N l a p).getD i Q0h.d))[j]?)∧Below w.heap.size w w'∧(b'=b∨w.heap.size≤b'):=by
 have HC:=Q01 hc
 have hl:l.length≤1048576:=by omega
 clear hc;obtain ⟨W0,M⟩:∃W,(((w.alloc (.cells #[.slice (some ⟨b,off,none⟩) l.length c] 32)).alloc (.cells #[.int .i64 a,.int .i64 p] 36)).alloc (.cells #[.slice none 0 0] 32))=W:=⟨_,rfl⟩;have aa:=alb0v0v3 M;have B:=Q01 aa;clear aa;have A:=alz0v0v3 M
 have H:W0.cell? ⟨w.heap.size,0,none⟩=some (.slice (some ⟨b,off,none⟩) l.length c):=by rw [←M];simp [go_sem]
 have r:=alz0v1v3 M;obtain ⟨F,G⟩:=alc2v1v3 M;have f:=alz0v2v3 M
 have C:W0.cell? ⟨w.heap.size+1+1,0,none⟩=some (.slice none 0 0):=by rw [←M];simp [go_sem]
 have t:W0.frozen? ⟨w.heap.size+1+1,0,none⟩=false:=by rw [←M];simp [go_sem]
 have I:=Q8S (some ⟨b,off,none⟩) c l a p W0 (.inr ⟨b,off,rfl,Kbq T B.out.size,(fun i hi j hj=> (B.out.cell (p:=⟨b,off+i * Q0h.k+j,none⟩) T).trans (HC.out i hi j hj))⟩) hn hl hf;have HZ:=Q01 f
 rcases Q2i l hn a p with P|⟨x,aZ,⟨P,_⟩|⟨P,_⟩⟩
 ·skip
  have HP:=Q01 (Q75 (l:=l) (a:=a) (p:=p) (by rw [P]));have HD:=Q01 (show (Q1w l a p).2=false by rw [P]);rw [P] at I;clear P;go_enter Tryz.func168,Tryz.ntmps168;go_wp2_with fail;refine (I).mono ?_;rintro e E ⟨rfl,q⟩;replace H:=bKq0v0v0 q H A;replace A:w.heap.size < E.heap.size:=Kbq A q.size;replace F:=bKq0v0v0 q F r;replace G:=bKq0v0v0 q G r;replace r:w.heap.size+1 < E.heap.size:=Kbq r q.size;replace C:=bKq0v0v0 q C f;replace t:E.frozen? ⟨w.heap.size+1+1,0,none⟩=false:=(q.frozen (p:=⟨w.heap.size+1+1,0,none⟩) f).trans t
  replace f:w.heap.size+1+1 < E.heap.size:=Kbq f q.size;replace B:=Q01 (B.out.trans (q.mono B.out.size));clear q;clear I;go_wp2;refine bodyPost_ret (v:=.tuple #[tab (.slice (some ⟨b,off,none⟩) l.length c),.bool false]) (by simp [results,Tryz.results168,go_sem,C]) rfl ⟨b,off,c,by rw [HD.out], ?_, ?_, ?_,.inl rfl⟩
  ·have:=B.out.size;simp;omega
  ·rw [HP.out]
   intro i hi j hj;have ai:=B.out.setCell (p:=⟨w.heap.size+1+1,0,none⟩) (by simp <;> omega) (.slice (some ⟨b,off,none⟩) l.length c);exact (ai.cell (p:=⟨b,off+i * Q0h.k+j,none⟩) T).trans (HC.out i hi j hj)
  ·exact B.out.setCell (p:=⟨w.heap.size+1+1,0,none⟩) (by simp <;> omega) _
 ·skip
  have HP:=Q01 (Q75 (l:=l) (a:=a) (p:=p) (by rw [P]));have HD:=Q01 (show (Q1w l a p).2=false by rw [P]);rw [P] at I;clear P;go_enter Tryz.func168,Tryz.ntmps168;go_wp2_with fail;refine (I).mono ?_;rintro e E ⟨rfl,q⟩;replace H:=bKq0v0v0 q H A;replace A:w.heap.size < E.heap.size:=Kbq A q.size;replace F:=bKq0v0v0 q F r;replace G:=bKq0v0v0 q G r;replace r:w.heap.size+1 < E.heap.size:=Kbq r q.size;replace C:=bKq0v0v0 q C f;replace t:E.frozen? ⟨w.heap.size+1+1,0,none⟩=false:=(q.frozen (p:=⟨w.heap.size+1+1,0,none⟩) f).trans t
  replace f:w.heap.size+1+1 < E.heap.size:=Kbq f q.size;replace B:=Q01 (B.out.trans (q.mono B.out.size));clear q;clear I;go_wp2;refine bodyPost_ret (v:=.tuple #[tab (.slice (some ⟨b,off,none⟩) l.length c),.bool false]) (by simp [results,Tryz.results168,go_sem,C]) rfl ⟨b,off,c,by rw [HD.out], ?_, ?_, ?_,.inl rfl⟩
  ·have:=B.out.size;simp;omega
  ·rw [HP.out]
   intro i hi j hj;have ai:=B.out.setCell (p:=⟨w.heap.size+1+1,0,none⟩) (by simp <;> omega) (.slice (some ⟨b,off,none⟩) l.length c);exact (ai.cell (p:=⟨b,off+i * Q0h.k+j,none⟩) T).trans (HC.out i hi j hj)
  ·exact B.out.setCell (p:=⟨w.heap.size+1+1,0,none⟩) (by simp <;> omega) _
 ·skip
  have HP:=Q01 (QaM P);have HD:=Q01 (show (Q1w l a p).2=true by rw [P]);rw [P] at I;clear P;have U:=Q01 (DropInv.start (l:=l) (i:=x) aW aZ a2)
  have i1:(x:Int) < (l.length:Int):=by omega
  go_enter Tryz.func168,Tryz.ntmps168;go_wp2_with fail;refine (I).mono ?_;rintro e E ⟨rfl,q⟩;replace H:=bKq0v0v0 q H A;replace A:w.heap.size < E.heap.size:=Kbq A q.size;replace F:=bKq0v0v0 q F r;replace G:=bKq0v0v0 q G r;replace r:w.heap.size+1 < E.heap.size:=Kbq r q.size;replace C:=bKq0v0v0 q C f;replace t:E.frozen? ⟨w.heap.size+1+1,0,none⟩=false:=(q.frozen (p:=⟨w.heap.size+1+1,0,none⟩) f).trans t;replace f:w.heap.size+1+1 < E.heap.size:=Kbq f q.size;replace B:=Q01 (B.out.trans (q.mono B.out.size));clear q;go_wp2_with fail
  refine (Q5v b off c l E (Kbq T B.out.size) (fun i hi j hj=> (B.out.cell (p:=⟨b,off+i * Q0h.k+j,none⟩) T).trans (HC.out i hi j hj)) hl).mono ?_;rintro e v2 ⟨o2,c2,rfl,ab,q⟩;have aT:=Q01 f
  obtain ⟨g,c3,a3⟩:∃g c3,Value.slice o2 l.length c2=.slice (some ⟨g,0,none⟩) l.length c3:=by
   rcases ab.2 with ⟨_,h0⟩|⟨g,c3,_,h0,_⟩
   ·exact absurd h0 (by omega)
   ·exact ⟨g,c3,h0⟩
  injection a3 with hv1 hv2 hv3;subst hv1 hv3;have HO:=Q01 ab;clear ab;replace H:=bKq0v0v0 q H A;replace A:w.heap.size < v2.heap.size:=Kbq A q.size;replace F:=bKq0v0v0 q F r;replace G:=bKq0v0v0 q G r;replace r:w.heap.size+1 < v2.heap.size:=Kbq r q.size;replace C:=bKq0v0v0 q C f;replace t:v2.frozen? ⟨w.heap.size+1+1,0,none⟩=false:=(q.frozen (p:=⟨w.heap.size+1+1,0,none⟩) f).trans t;replace f:w.heap.size+1+1 < v2.heap.size:=Kbq f q.size;replace B:=Q01 (B.out.trans (q.mono B.out.size));clear q;have aR:=HO
  obtain ⟨L,aj⟩:∃W,(v2.alloc (.cells #[.slice (some ⟨g,0,none⟩) l.length c2] 32))=W:=⟨_,rfl⟩;have n:=alb0v0v1 aj;replace H:=bKq0v0v0 n H A;replace A:w.heap.size < L.heap.size:=Kbq A n.size;replace F:=bKq0v0v0 n F r;replace G:=bKq0v0v0 n G r;replace r:w.heap.size+1 < L.heap.size:=Kbq r n.size;replace C:=bKq0v0v0 n C f;replace t:L.frozen? ⟨w.heap.size+1+1,0,none⟩=false:=(n.frozen (p:=⟨w.heap.size+1+1,0,none⟩) f).trans t;replace f:w.heap.size+1+1 < L.heap.size:=Kbq f n.size;replace HO:=Q01 (Q03 HO.out n)
  replace B:=Q01 (B.out.trans (n.mono B.out.size));clear n;have ao:=alz0v0v1 aj
  have av:L.cell? ⟨v2.heap.size,0,none⟩=some (.slice (some ⟨g,0,none⟩) l.length c2):=by rw [←aj];simp [go_sem]
  have aF:=(aR.out.lt g rfl);have bj:E.heap.size≤g:=aF.1;have al:g+1≤v2.heap.size:=aF.2;have a4:=aT.out;have aM:=ao;have J:L.ownsRow E.heap.size 101 5 (.slice (some ⟨g,0,none⟩) l.length c2) l.length (l.flatMap Q0h.cs):=HO.out
  have am:(l.flatMap Q0h.cs).length=l.length * 5:=by rw [Q0u];rfl
  obtain ⟨u0,aH⟩:∃u,L.cell? ⟨g,x * 5,none⟩=some u:=⟨_,(J.cellAt (x * 5) (by omega)).trans (List.getElem?_eq_getElem (by omega))⟩;have ay:=J.frozenAt (x * 5);obtain ⟨u1,aI⟩:∃u,L.cell? ⟨g,x * 5+1,none⟩=some u:=⟨_,(J.cellAt (x * 5+1) (by omega)).trans (List.getElem?_eq_getElem (by omega))⟩;have az:=J.frozenAt (x * 5+1);obtain ⟨u2,aJ⟩:∃u,L.cell? ⟨g,x * 5+2,none⟩=some u:=⟨_,(J.cellAt (x * 5+2) (by omega)).trans (List.getElem?_eq_getElem (by omega))⟩;have aA:=J.frozenAt (x * 5+2)
  obtain ⟨u3,aK⟩:∃u,L.cell? ⟨g,x * 5+3,none⟩=some u:=⟨_,(J.cellAt (x * 5+3) (by omega)).trans (List.getElem?_eq_getElem (by omega))⟩;have aB:=J.frozenAt (x * 5+3);obtain ⟨u4,aL⟩:∃u,L.cell? ⟨g,x * 5+4,none⟩=some u:=⟨_,(J.cellAt (x * 5+4) (by omega)).trans (List.getElem?_eq_getElem (by omega))⟩;have aC:=J.frozenAt (x * 5+4);obtain ⟨W3,ak⟩:∃W,(((((L.setCell ⟨g,x * 5,none⟩ (.bool false)).setCell ⟨g,x * 5+1,none⟩ (.int .i64 0)).setCell ⟨g,x * 5+2,none⟩ (.int .i64 0)).setCell ⟨g,x * 5+3,none⟩ (.int .i64 0)).setCell ⟨g,x * 5+4,none⟩ (.int .i64 0))=W:=⟨_,rfl⟩
  have aq:Hid (W3.ownsRow E.heap.size 101 5 (.slice (some ⟨g,0,none⟩) l.length c2) l.length ((l.set x sl0).flatMap Q0h.cs)):=by rw [←ak];exact (Q65 (k:=x) sl0 (Kaq g) J (Below.refl g L)).1
  have X:Hid (Stp g (g+1) L W3):=by rw [←ak];exact Q73 L g x sl0
  have aU:=X.out.cell av ao (.inr al);have a1:=Q5q l.length x;have a9:((l.length:Int)==0)=false:=beq_eq_false_iff_ne.2 (by omega);clear J am I;go_wp2
  go_loopg [6,10] (Qfn (l.set x sl0) x ((x+1) % l.length)) (fun gk iv kv wr=> ∃(m:List Sl) (i k:Nat),iv=.int .i64 i∧kv=.int .i64 k∧Hid (DropInv l.length (Q5a l x) gk m i k)∧Hid (wr.ownsRow E.heap.size 101 5 (.slice (some ⟨g,0,none⟩) l.length c2) l.length (m.flatMap Q0h.cs))∧Hid (Stp g (g+1) L wr))
  case atStart=> exact ⟨_,x,(x+1) % l.length,rfl,by simp,U,aq,X⟩
  case round=>
   clear aU aq X ak U aH ay aI az aJ aA aK aB aL aC a1;obtain ⟨m,i,k,rfl,rfl,HI,V,N⟩:=hrel;have O:=Q01 HI.out.len;have a0:=HI.out.hi;have ad:=HI.out.hk;have J:wr.ownsRow E.heap.size 101 5 (.slice (some ⟨g,0,none⟩) l.length c2) l.length (m.flatMap Q0h.cs):=V.out;have ba:L.heap.size≤wr.heap.size:=N.out.size;have aw:=N.out.cell av ao (.inr al);have crr:=N.out.cell C f (.inl (show w.heap.size+1+1 < g by omega));have ax:=N.out.frozen t f (.inl (show w.heap.size+1+1 < g by omega))
   have bl:(k:Int) < (l.length:Int):=by omega
   have bk:(i:Int) < (l.length:Int):=by omega
   obtain ⟨s,an⟩:∃s,m.getD k sl0=s:=⟨_,rfl⟩;have z:=QeF J O.out.symm k ad;rw [an] at z;have e0:=z.1;have e1:=z.2.1;have e2:=z.2.2.1;have e3:=z.2.2.2.1;have e4:=z.2.2.2.2;have HX:=Q01 an;clear z an;have af:w.heap.size+1+1 < E.heap.size:=a4
   by_cases hki:k=i
   ·have ah:=Q01 (HI.out.done (by rw [hki];exact HI.out.free))
    subst hki;clear J;go_wp2;refine bodyPost_ret (v:=.tuple #[tab (.slice (some ⟨g,0,none⟩) l.length c2),.bool true]) (by simp [results,Tryz.results168,go_sem,crr]) rfl ⟨g,0,c2,by rw [HD.out], ?_, ?_, ?_,.inr (by omega)⟩
    ·have h:=(V.out.lt g rfl).2;simpa using h
    ·rw [HP.out,←ah.out]
     have h:=ownsRow_setCell_below V.out (a:=⟨w.heap.size+1+1,0,none⟩) af (.slice (some ⟨g,0,none⟩) l.length c2);exact Q1J h O.out.symm
    ·exact (B.out.trans (N.out.below (by omega) (by omega))).setCell (p:=⟨w.heap.size+1+1,0,none⟩) (by simp <;> omega) _
   ·have a5:((k:Int)==(i:Int))=false:=beq_eq_false_iff_ne.2 (by omega)
    have a6:¬(k:Int)=(i:Int):=by omega
    obtain ⟨su,sa,sp,sv,st⟩:=s;simp only at e0 e1 e2 e3 e4
    cases su with
    |false=>
     have ah:=Q01 (HI.out.done (by rw [HX.out]));clear J;go_wp2;refine bodyPost_ret (v:=.tuple #[tab (.slice (some ⟨g,0,none⟩) l.length c2),.bool true]) (by simp [results,Tryz.results168,go_sem,crr]) rfl ⟨g,0,c2,by rw [HD.out], ?_, ?_, ?_,.inr (by omega)⟩
     ·have h:=(V.out.lt g rfl).2;simpa using h
     ·rw [HP.out,←ah.out]
      have h:=ownsRow_setCell_below V.out (a:=⟨w.heap.size+1+1,0,none⟩) af (.slice (some ⟨g,0,none⟩) l.length c2);exact Q1J h O.out.symm
     ·exact (B.out.trans (N.out.below (by omega) (by omega))).setCell (p:=⟨w.heap.size+1+1,0,none⟩) (by simp <;> omega) _
    |true=>
     have aX:Q0n sa sp=true:=by have h:=HI.out.ok k (by have:=O.out;omega) (by rw [HX.out]);rw [HX.out] at h;exact h
     have aY:=Q1M hn sa sp;have ap:=Q01 (show Q6I l.length m i k=decide (Q1K l.length i k≤Q1K l.length (Q1d l.length sa sp) k) by unfold Q6I;rw [HX.out]);have aS:=Q01 J;clear J;go_wp2_with fail;refine (Q8L l.length sa sp wr hn hl aX).mono ?_;rintro e W6 ⟨rfl,ac⟩;generalize Q1d l.length sa sp=hm at *
     have bm:(hm:Int) < (l.length:Int):=by omega
     have bh:=Qcr aY ad;have bi:=Qcr a0 ad;have bn:=Q5q l.length k;have y:W6.ownsRow E.heap.size 101 5 (.slice (some ⟨g,0,none⟩) l.length c2) l.length (m.flatMap Q0h.cs):=Q03 aS.out ac
     have aO:v2.heap.size < wr.heap.size:=by omega
     have aV:=bKq0v0v0 ac aw aO;have Y:=Q01 (N.out.trans (Stp.of ac));clear ac aw crr ax;generalize Q1K l.length hm k=d1 at *;generalize Q1K l.length i k=d2 at *
     by_cases hmv:(d2:Int)≤(d1:Int)
     ·skip
      have R:=Q01 (HI.out.move (by rw [HX.out]) (by rw [ap.out];exact decide_eq_true (by omega)));rw [HX.out] at R
      have am:(m.flatMap Q0h.cs).length=l.length * 5:=by rw [Q0u,O.out];rfl
      have z:=QeF y O.out.symm k ad;rw [HX.out] at z;have g0:=z.1;have g1:=z.2.1;have g2:=z.2.2.1;have g3:=z.2.2.2.1;have g4:=z.2.2.2.2;simp only at g0 g1 g2 g3 g4;clear z e0 e1 e2 e3 e4;obtain ⟨u0,aH⟩:∃u,W6.cell? ⟨g,i * 5,none⟩=some u:=⟨_,(y.cellAt (i * 5) (by omega)).trans (List.getElem?_eq_getElem (by omega))⟩;have ay:=y.frozenAt (i * 5);obtain ⟨u1,aI⟩:∃u,W6.cell? ⟨g,i * 5+1,none⟩=some u:=⟨_,(y.cellAt (i * 5+1) (by omega)).trans (List.getElem?_eq_getElem (by omega))⟩;have az:=y.frozenAt (i * 5+1)
      obtain ⟨u2,aJ⟩:∃u,W6.cell? ⟨g,i * 5+2,none⟩=some u:=⟨_,(y.cellAt (i * 5+2) (by omega)).trans (List.getElem?_eq_getElem (by omega))⟩;have aA:=y.frozenAt (i * 5+2);obtain ⟨u3,aK⟩:∃u,W6.cell? ⟨g,i * 5+3,none⟩=some u:=⟨_,(y.cellAt (i * 5+3) (by omega)).trans (List.getElem?_eq_getElem (by omega))⟩;have aB:=y.frozenAt (i * 5+3);obtain ⟨u4,aL⟩:∃u,W6.cell? ⟨g,i * 5+4,none⟩=some u:=⟨_,(y.cellAt (i * 5+4) (by omega)).trans (List.getElem?_eq_getElem (by omega))⟩;have aC:=y.frozenAt (i * 5+4)
      obtain ⟨Z,aD⟩:∃W,(((((W6.setCell ⟨g,i * 5,none⟩ (.bool true)).setCell ⟨g,i * 5+1,none⟩ (.int .i64 sa)).setCell ⟨g,i * 5+2,none⟩ (.int .i64 sp)).setCell ⟨g,i * 5+3,none⟩ (.int .i64 sv)).setCell ⟨g,i * 5+4,none⟩ (.int .i64 st))=W:=⟨_,rfl⟩
      have D:Z.ownsRow E.heap.size 101 5 (.slice (some ⟨g,0,none⟩) l.length c2) l.length ((m.set i ⟨true,sa,sp,sv,st⟩).flatMap Q0h.cs):=by rw [←aD];exact (Q65 (k:=i) ⟨true,sa,sp,sv,st⟩ (Kaq g) y (Below.refl g W6)).1
      have ae:Hid (Stp g (g+1) W6 Z):=by rw [←aD];exact Q73 W6 g i ⟨true,sa,sp,sv,st⟩
      have aG:((m.set i ⟨true,sa,sp,sv,st⟩).flatMap Q0h.cs).length=l.length * 5:=by rw [Q0u,List.length_set,O.out];rfl
      have aN:v2.heap.size < W6.heap.size:=Kbq aM Y.out.size;have bb:=ae.out.cell aV aN (.inr al);obtain ⟨y0,bo⟩:∃u,Z.cell? ⟨g,k * 5,none⟩=some u:=⟨_,(D.cellAt (k * 5) (by omega)).trans (List.getElem?_eq_getElem (by omega))⟩;have bc:=D.frozenAt (k * 5);obtain ⟨y1,bp⟩:∃u,Z.cell? ⟨g,k * 5+1,none⟩=some u:=⟨_,(D.cellAt (k * 5+1) (by omega)).trans (List.getElem?_eq_getElem (by omega))⟩;have bd:=D.frozenAt (k * 5+1);obtain ⟨y2,bq⟩:∃u,Z.cell? ⟨g,k * 5+2,none⟩=some u:=⟨_,(D.cellAt (k * 5+2) (by omega)).trans (List.getElem?_eq_getElem (by omega))⟩
      have be:=D.frozenAt (k * 5+2);obtain ⟨y3,bs⟩:∃u,Z.cell? ⟨g,k * 5+3,none⟩=some u:=⟨_,(D.cellAt (k * 5+3) (by omega)).trans (List.getElem?_eq_getElem (by omega))⟩;have bf:=D.frozenAt (k * 5+3);obtain ⟨y4,bt⟩:∃u,Z.cell? ⟨g,k * 5+4,none⟩=some u:=⟨_,(D.cellAt (k * 5+4) (by omega)).trans (List.getElem?_eq_getElem (by omega))⟩;have bg:=D.frozenAt (k * 5+4)
      obtain ⟨W5,aE⟩:∃W,(((((Z.setCell ⟨g,k * 5,none⟩ (.bool false)).setCell ⟨g,k * 5+1,none⟩ (.int .i64 0)).setCell ⟨g,k * 5+2,none⟩ (.int .i64 0)).setCell ⟨g,k * 5+3,none⟩ (.int .i64 0)).setCell ⟨g,k * 5+4,none⟩ (.int .i64 0))=W:=⟨_,rfl⟩
      have aP:Hid (W5.ownsRow E.heap.size 101 5 (.slice (some ⟨g,0,none⟩) l.length c2) l.length (((m.set i ⟨true,sa,sp,sv,st⟩).set k sl0).flatMap Q0h.cs)):=by rw [←aE];exact (Q65 (k:=k) sl0 (Kaq g) D (Below.refl g Z)).1
      have ar:Hid (Stp g (g+1) Z W5):=by rw [←aE];exact Q73 Z g k sl0
      have au:=Q01 (Y.out.trans (ae.out.trans ar.out));clear y D am aG;go_wp2
      go_region
      go_wp2
      go_region
      go_wp2
      go_roundg (gk - 1)
      case measure=> have:=R.out.1;omega
      case rel=> exact ⟨_,k,(k+1) % l.length,rfl,by simp,R.out.2,aP,au.out.drew.drew⟩
     ·skip
      have R:=Q01 (HI.out.stay (by rw [HX.out]) (by rw [ap.out];exact decide_eq_false (by omega)));have a7:decide (d2≤d1)=false:=decide_eq_false (by omega);have a8:decide ((d2:Int)≤(d1:Int))=false:=decide_eq_false hmv;have aQ:=Q01 y;clear y;go_wp2
      go_region
      go_wp2
      go_roundg (gk - 1)
      case measure=> have:=R.out.1;omega
      case rel=> exact ⟨m,i,(k+1) % l.length,rfl,by simp,R.out.2,aQ,Y.out.drew⟩
theorem Qd4 {W:World} {B b off n c:Nat} {o:Option Addr} {T:TypeId} {m:List Sl} (hm:0 < m.length) (a:W.heap[B]? =some (.cells #[.slice o n c] T (0,0))) (f:(∀i,i < m.length→∀j,j < Q0h.k→W.cell? ⟨b,off+i * Q0h.k+j,none⟩=(Q0h.cs (m.getD i Q0h.d))[j]?)):b≠B:=by
 rintro rfl;have h:W.cell? ⟨b,off+0 * Q0h.k+0,none⟩=some (.bool (m.getD 0 Q0h.d).u):=f 0 hm 0 (by decide);simp only [World.cell?,a,Nat.zero_mul,Nat.add_zero] at h
 rcases off with _|off <;> simp at h
end Go.Proofs.YtpneolgdghbinaaGreat
