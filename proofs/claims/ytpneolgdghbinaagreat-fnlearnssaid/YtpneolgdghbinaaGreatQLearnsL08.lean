/- The program's tableFrom. -/
import Derived.Test.YtpneolgdghbinaaGreatQLearnsL05
import Derived.Test.YtpneolgdghbinaaGreatQLearnsL07
namespace Go.Proofs.YtpneolgdghbinaaGreat
open Go.ChangeShapes Go.WideShapes Go.ChangeAt Go.RowKit Go.Joins
set_option linter.unusedVariables false
set_option linter.unusedSimpArgs false
set_option maxRecDepth 100000
set_option maxHeartbeats 40000000
theorem Q1t {e:TypeId} {w:World} {base g n c:Nat} {l:List Sl} (h:w.ownsRow base e 5 (.slice (some ⟨g,0,none⟩) n c) n (l.flatMap Q0g.cs)) (b:n=l.length):∀i,i < l.length→∀j,j < Q0g.k→w.cell? ⟨g,0+i * Q0g.k+j,none⟩=(Q0g.cs (l.getD i Q0g.d))[j]? :=fun i hi j f=> by
 have a:i * Q0g.k+j < l.length * Q0g.k:=by
  have:(i+1) * Q0g.k≤l.length * Q0g.k:=Nat.mul_le_mul_right _ hi;rw [Nat.add_mul] at this;omega
 subst b;rw [Nat.zero_add,h.cellAt _ a,Q4K Q0g l i j hi f]
theorem Q99 (o:Option Addr) (c:Nat) (l:List Sl) (w:World) (hR:RdS w.heap.size w o l) (hl:l.length≤1048576):
  Calls Tryz.prog 76 #[tab (.slice o l.length c)] w fun e w'=> ∃o' n' c',e=.returned (.tuple #[tab (.slice o' n' c'),.bool (Q0c l)])∧((n'=0∧Q0c l=false)∨∃g,o'=some ⟨g,0,none⟩∧n'=l.length∧c'=l.length∧ownL Q0g Q1H w' w.heap.size (.slice (some ⟨g,0,none⟩) l.length l.length) l)∧Below w.heap.size w w':=by
 have hB:Below w.heap.size w w:=Below.refl _ _
 by_cases hlen:1≤l.length∧l.length≤16
 ·obtain ⟨hn,az⟩:=hlen
  rcases hR with hR|⟨b,off,rfl,z,B⟩
  ·subst hR;simp at hn
  have HC:=Q01 B
  have i1:¬((l.length:Int) < 1):=by omega
  have i2:¬(16 < (l.length:Int)):=by omega
  obtain ⟨n,D⟩:∃W,(w.alloc (.cells #[.slice (some ⟨b,off,none⟩) l.length c] 32)).alloc (.cells #[.slice none 0 0] 89)=W:=⟨_,rfl⟩
  have h0:Hid (Below w.heap.size w n):=by rw [←D];exact ((Below.refl _ _).alloc (Kaq _) _).alloc (by simp) _
  have ae:n.cell? ⟨w.heap.size,0,none⟩=some (.slice (some ⟨b,off,none⟩) l.length c):=by rw [←D];simp [go_sem]
  have an:Hid (n.heap[w.heap.size+1]? =some (.cells #[.slice none 0 0] 89 (0,0))):=by
   have h:=World.alloc_heap_new (w.alloc (.cells #[.slice (some ⟨b,off,none⟩) l.length c] 32)) (.cells #[.slice none 0 0] 89);rw [D,World.size_alloc] at h;exact h
  have I:=alz0v1v2 D;clear B hB;go_enter Tryz.func76,Tryz.ntmps76;go_wp2_with fail;refine (Q4e l.length n hl).mono ?_;rintro e L ⟨g,rfl,r,N⟩;have aF:g < L.heap.size:=(r.lt g rfl).2;have au:n.heap.size≤g:=(r.lt g rfl).1;obtain ⟨W2,J⟩:∃W,L.alloc (.cells #[.slice (some ⟨g,0,none⟩) l.length l.length] 89)=W:=⟨_,rfl⟩;have ab:=alb0v0v1 J;have f:Below n.heap.size n W2:=N.trans (ab.mono N.size);have aw:=bKq0v0v0 f ae (show w.heap.size < n.heap.size by omega);have aj:Hid _:=alx0v0v1 J
  have ag:Hid (W2.heap[w.heap.size+1]? =some (.cells #[.slice none 0 0] 89 (0,0))):=(f.block _ I).trans an.out;have ak:=Q01 (h0.out.trans (f.mono h0.out.size));have ay:=alz0v0v1 J
  have al:Hid (W2.ownsRow n.heap.size Q1H 5 (.slice (some ⟨g,0,none⟩) l.length l.length) l.length ((Q3u Q0g l 0).flatMap Q0g.cs)):=by
   have h:W2.ownsRow n.heap.size Q1H 5 (.slice (some ⟨g,0,none⟩) l.length l.length) (List.replicate l.length sl0).length ((List.replicate l.length sl0).flatMap Q0g.cs):=Q03 r ab;rw [List.length_replicate] at h;unfold Hid;rw [Q8B];exact h
  clear r N ab f ae an D
  have aH:w.heap.size+1 < L.heap.size:=by omega
  go_wp2
  go_loopw [27] (fun i wr=> ∃k:Nat,k≤l.length∧i=.int .i64 k∧Hid (Q7l l k)∧Hid (wr.ownsRow n.heap.size Q1H 5 (.slice (some ⟨g,0,none⟩) l.length l.length) l.length ((Q3u Q0g l k).flatMap Q0g.cs))∧Hid (wr.heap[w.heap.size+1]? =some (.cells #[.slice none 0 0] 89 (0,0)))∧Hid (wr.heap[L.heap.size]? =some (.cells #[.slice (some ⟨g,0,none⟩) l.length l.length] 89 (0,0)))∧Hid (Below w.heap.size w wr)∧L.heap.size < wr.heap.size)
   (fun i _=> l.length - (intOf i).toNat)
  case atStart=> exact ⟨0,Kcq _,rfl,fun i hi=> absurd hi (Nat.not_lt_zero _),al,ag,aj,ak,ay⟩
  case round=>
   clear al ag aj ak aw J;obtain ⟨k,hk,rfl,Z,HO,HR,aa,m,V⟩:=hrel;have r1:=Q0m HR.out 0 _ rfl
   have f1:wr.frozen? ⟨w.heap.size+1,0,none⟩=false:=by have h:=HR.out;simp [World.frozen?,h]
   by_cases hlt:k < l.length
   ·obtain ⟨s,ac⟩:∃s,l.getD k sl0=s:=⟨_,rfl⟩
    have q:=RdL.slot (C:=w.heap.size) HC.out k hlt;rw [ac] at q;have e0:=(m.out.cell (p:=⟨b,off+k * 5,none⟩) z).trans q.1;have e1:=(m.out.cell (p:=⟨b,off+k * 5+1,none⟩) z).trans q.2.1;have e2:=(m.out.cell (p:=⟨b,off+k * 5+2,none⟩) z).trans q.2.2.1;have e3:=(m.out.cell (p:=⟨b,off+k * 5+3,none⟩) z).trans q.2.2.2.1;have e4:=(m.out.cell (p:=⟨b,off+k * 5+4,none⟩) z).trans q.2.2.2.2
    have aO:(k:Int) < (l.length:Int):=by omega
    obtain ⟨W3,U⟩:∃W,wr.alloc (.cells #[.bool s.u,.int .i64 s.a,.int .i64 s.p,.int .i64 s.v,.int .i64 s.t] 101)=W:=⟨_,rfl⟩;have x:=alb0v0v1 U;have HX:=Q01 ac;have T:=Q01 x;obtain ⟨g0,g1,g2,g3,g4⟩:=alc5v0v1 U;clear q ac x;go_wp2_with fail;refine (Qb6 s W3).mono ?_;rintro e w4 ⟨M,rfl,P,R⟩;obtain ⟨A,ap⟩:∃W,w4.alloc (.cells #[.bool M.u,.int .i64 M.a,.int .i64 M.p,.int .i64 M.v,.int .i64 M.t] 165)=W:=⟨_,rfl⟩;have y:Below wr.heap.size wr A:=T.out.trans ((R.trans (by rw [←ap];exact (Below.refl _ _).alloc (by have:=R.size;omega) _)).mono T.out.size)
    obtain ⟨q0,q1,q2,q3,q4⟩:=alc5v0v1 ap;have ao:=Q01 (m.out.trans (y.mono m.out.size));have ad:Hid (A.heap[w.heap.size+1]? =some (.cells #[.slice none 0 0] 89 (0,0))):=(y.block _ (by omega)).trans HR.out;have am:Hid (A.heap[L.heap.size]? =some (.cells #[.slice (some ⟨g,0,none⟩) l.length l.length] 89 (0,0))):=(y.block _ V).trans aa.out;have ah:L.heap.size < A.heap.size:=Kbq V y.size;have d:=Q03 HO.out y;clear T R y g0 g1 g2 g3 g4 e0 e1 e2 e3 e4 r1 f1 HR aa m HO U
    cases hsb:Q2g s with
    |false=>
     have O:=Q01 (Q2T hlt (Q4I (by rw [HX.out];exact hsb)));have r1:=Q0m ad.out 0 _ rfl
     have f1:A.frozen? ⟨w.heap.size+1,0,none⟩=false:=by have h:=ad.out;simp [World.frozen?,h]
     clear d hsb P Z;go_wp2;refine bodyPost_ret (v:=.tuple #[tab (.slice none 0 0),.bool false]) (by simp [results,Tryz.results76,go_sem,r1]) rfl ⟨_,_,_,by rw [←O.out],.inl ⟨rfl,O.out.symm⟩, ?_⟩;exact ao.out.setCell (p:=⟨w.heap.size+1,0,none⟩) (by simp) _
    |true=>
     obtain rfl:=P hsb;have HT:=Q01 (QbL Z.out (by rw [HX.out];exact hsb));have t4:=Q0m am.out 0 _ rfl
     have ar:((Q3u Q0g l k).flatMap Q0g.cs).length=l.length * 5:=by rw [Q0n,Q6x Q0g l k hk];rfl
     obtain ⟨u0,aJ⟩:∃u,A.cell? ⟨g,k * 5,none⟩=some u:=⟨_,(d.cellAt (k * 5) (by omega)).trans (List.getElem?_eq_getElem (by omega))⟩;have aM:=d.frozenAt (k * 5);obtain ⟨u1,aA⟩:∃u,A.cell? ⟨g,k * 5+1,none⟩=some u:=⟨_,(d.cellAt (k * 5+1) (by omega)).trans (List.getElem?_eq_getElem (by omega))⟩;have aD:=d.frozenAt (k * 5+1);obtain ⟨u2,aG⟩:∃u,A.cell? ⟨g,k * 5+2,none⟩=some u:=⟨_,(d.cellAt (k * 5+2) (by omega)).trans (List.getElem?_eq_getElem (by omega))⟩;have aN:=d.frozenAt (k * 5+2)
     obtain ⟨u3,aL⟩:∃u,A.cell? ⟨g,k * 5+3,none⟩=some u:=⟨_,(d.cellAt (k * 5+3) (by omega)).trans (List.getElem?_eq_getElem (by omega))⟩;have aC:=d.frozenAt (k * 5+3);obtain ⟨u4,aE⟩:∃u,A.cell? ⟨g,k * 5+4,none⟩=some u:=⟨_,(d.cellAt (k * 5+4) (by omega)).trans (List.getElem?_eq_getElem (by omega))⟩;have aI:=d.frozenAt (k * 5+4);have G:=Q01 (Q3o (k:=k) M au d (Below.refl n.heap.size A));have av:=Q01 (show (Q3u Q0g l k).set k M=Q3u Q0g l (k+1) by rw [←HX.out];exact Qac Q0g l k hlt);clear d ar hsb P Z;go_wp2;go_roundw
     case rel=> exact ⟨k+1,hlt,by go_num,HT,(by have h:=G.out.1;rw [av.out] at h;exact h),(G.out.2.block _ I).trans ad.out,(by
       repeat (refine (Below.heap_setCell _ _ _ _ (by simp;omega)).trans ?_)
       exact am.out),ao.out.trans (G.out.2.mono (by have:=h0.out.size;omega)),Kbq ah G.out.2.size⟩
     case measure=> simp [intOf];omega
   ·have e:k=l.length:=by omega
    subst e;have F:=HO.out;rw [Qai] at F;have E:=Q01 F;clear F HO;have t4:=Q0m aa.out 0 _ rfl
    have aq:g < wr.heap.size:=by omega
    have X:=ownsRow_setCell_below E.out (a:=⟨w.heap.size+1,0,none⟩) (show w.heap.size+1 < n.heap.size from I) (.slice (some ⟨g,0,none⟩) l.length l.length);have hA:=Q4a g 0 l.length l wr.drew (by omega) hl Z.out aq (fun i hi j hj=> Q1t E.out rfl i hi j hj);have ai:=Q4a g 0 l.length l (wr.setCell ⟨w.heap.size+1,0,none⟩ (.slice (some ⟨g,0,none⟩) l.length l.length)).drew (by omega) hl Z.out (by simpa using aq) (fun i hi j hj=> Q1t X rfl i hi j hj);rw [Q9l hn az Z.out] at hA ai;have aK:=Q01 X
    have Y:Hid (wr.drew.ownsRow n.heap.size Q1H 5 (.slice (some ⟨g,0,none⟩) l.length l.length) l.length (l.flatMap Q0g.cs)):=E.out
    have H:w.heap.size+1 < wr.heap.size:=by omega
    have ax:w.heap.size+1 < (wr.setCell ⟨w.heap.size+1,0,none⟩ (.slice (some ⟨g,0,none⟩) l.length l.length)).heap.size:=by simpa using H
    have cB:(wr.setCell ⟨w.heap.size+1,0,none⟩ (.slice (some ⟨g,0,none⟩) l.length l.length)).cell? ⟨w.heap.size+1,0,none⟩=some (.slice (some ⟨g,0,none⟩) l.length l.length):=World.cell?_setCell_same' wr ⟨w.heap.size+1,0,none⟩ _ (by rw [r1];rfl);clear X Z;go_wp2
    first|(go_region_with (first|(go_at_call 126;refine hA.mono ?_;rintro e w2 ⟨rfl,f⟩;have m1:=(f.cell (p:=⟨w.heap.size+1,0,none⟩) H).trans r1;have mf:=(f.frozen (p:=⟨w.heap.size+1,0,none⟩) H).trans f1;have m4:=(f.cell (p:=⟨L.heap.size,0,none⟩) V).trans t4;have af:=Q01 f;clear f)|(go_at_call 126;refine ai.mono ?_;rintro e w3 ⟨rfl,x⟩;have m1:=(x.cell (p:=⟨w.heap.size+1,0,none⟩) ax).trans cB;have aB:=Q01 x;clear x)))|fail
    all_goals go_wp2
    all_goals refine bodyPost_ret (v:=.tuple #[tab (.slice (some ⟨g,0,none⟩) l.length l.length),.bool (Q0c l)]) (by simp [results,Tryz.results76,go_sem,m1]) rfl ⟨_,_,_,rfl,.inr ⟨g,rfl,rfl,rfl, ?_⟩, ?_⟩
    all_goals first
     |exact Q04 (ownsRow_setCell_below (Q03 Y.out af.out) (show w.heap.size+1 < n.heap.size from I) _) h0.out.size
     |exact ((Below.drew m.out).trans (af.out.mono (Kdq (Nat.le_succ _) (Nat.le_of_lt H)))).setCell (p:=⟨w.heap.size+1,0,none⟩) (by simp) _
 ·have O:=Q01 (Q6D hlen)
  by_cases h1:(l.length:Int) < 1
  ·go_enter Tryz.func76,Tryz.ntmps76
   go_wp2;refine bodyPost_ret (v:=.tuple #[tab (.slice none 0 0),.bool false]) (by simp [results,Tryz.results76,go_sem]) rfl ⟨_,_,_,by rw [←O.out],.inl ⟨rfl,O.out.symm⟩, ?_⟩
   (repeat (first|with_reducible (first|exact hB|exact Below.refl _ _|refine Below.drew ?_|refine below_drewN ?_ _|refine Below.alloc ?_ ?_ _|refine Below.setCell ?_ ?_ _)|(focus (simp;first|done|omega))|omega))
  ·have h2:(16:Int) < l.length:=by omega
   go_enter Tryz.func76,Tryz.ntmps76;go_wp2;refine bodyPost_ret (v:=.tuple #[tab (.slice none 0 0),.bool false]) (by simp [results,Tryz.results76,go_sem]) rfl ⟨_,_,_,by rw [←O.out],.inl ⟨rfl,O.out.symm⟩, ?_⟩
   (repeat (first|with_reducible (first|exact hB|exact Below.refl _ _|refine Below.drew ?_|refine below_drewN ?_ _|refine Below.alloc ?_ ?_ _|refine Below.setCell ?_ ?_ _)|(focus (simp;first|done|omega))|omega))
end Go.Proofs.YtpneolgdghbinaaGreat
