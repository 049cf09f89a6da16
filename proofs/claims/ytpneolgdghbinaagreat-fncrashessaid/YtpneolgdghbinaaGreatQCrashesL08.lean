/- The program's tableFrom. -/
import Derived.Test.YtpneolgdghbinaaGreatQCrashesL05
import Derived.Test.YtpneolgdghbinaaGreatQCrashesL07
namespace Go.Proofs.YtpneolgdghbinaaGreat
open Go.ChangeShapes Go.WideShapes Go.ChangeAt Go.RowKit Go.Joins
set_option linter.unusedVariables false
set_option linter.unusedSimpArgs false
set_option maxRecDepth 100000
set_option maxHeartbeats 40000000
theorem Q1i {e:TypeId} {w:World} {base g n c:Nat} {l:List Sl} (h:w.ownsRow base e 5 (.slice (some ⟨g,0,none⟩) n c) n (l.flatMap Q0g.cs)) (f:n=l.length):∀i,i < l.length->∀j,j < Q0g.k->w.cell? ⟨g,0+i * Q0g.k+j,none⟩=(Q0g.cs (l.getD i Q0g.d))[j]? :=fun i hi j b=>by
 have a:i * Q0g.k+j < l.length * Q0g.k:=by
  have:(i+1) * Q0g.k<=l.length * Q0g.k:=Nat.mul_le_mul_right _ hi;rw[Nat.add_mul]at this;omega
 subst f;rw[Nat.zero_add,h.cellAt _ a,Q4A Q0g l i j hi b]
theorem Q5o (o:Option Addr) (c:Nat) (l:List Sl) (w:World) (hR:RdS w.heap.size w o l) (hl:l.length<=1048576):
  Calls Tryz.prog 76 #[tab (.slice o l.length c)] w fun e w'=> ∃o' n' c',e=.returned (.tuple #[tab (.slice o' n' c'),.bool (Q0e l)])/\((n'=0/\Q0e l=false)\/∃g,o'=some ⟨g,0,none⟩/\n'=l.length/\c'=l.length/\ownL Q0g Q1B w' w.heap.size (.slice (some ⟨g,0,none⟩) l.length l.length) l)/\Below w.heap.size w w':=by
 have hB:Below w.heap.size w w:=KBq
 by_cases hlen:1<=l.length/\l.length<=16
 ·obtain⟨hn,au⟩:=hlen
  rcases hR with hR|⟨b,off,rfl,D,E⟩
  ·subst hR;simp at hn
  have HC:=Q02 E
  have i1:¬((l.length:Int) < 1):=by omega
  have i2:¬(16 < (l.length:Int)):=by omega
  obtain⟨n,B⟩:∃W,(w.alloc (.cells #[.slice (some ⟨b,off,none⟩) l.length c] 32)).alloc (.cells #[.slice none 0 0] 89)=W:=⟨_,rfl⟩
  have h0:Hid (Below w.heap.size w n):=by rw[<-B];exact(KBq.alloc (Kaq _) _).alloc (by simp) _
  have al:n.cell? ⟨w.heap.size,0,none⟩=some (.slice (some ⟨b,off,none⟩) l.length c):=by rw[<-B];simp[go_sem]
  have ai:Hid (n.heap[w.heap.size+1]? =some (.cells #[.slice none 0 0] 89 (0,0))):=by
   have h:=World.alloc_heap_new (w.alloc (.cells #[.slice (some ⟨b,off,none⟩) l.length c] 32)) (.cells #[.slice none 0 0] 89);rw[B,World.size_alloc]at h;exact h
  have J:=alz0v1v2 B;clear E hB;go_enter Tryz.func76,Tryz.ntmps76;go_wp2_with fail;refine(Q2r l.length n hl).mono ?_;rintro e L ⟨g,rfl,r,V⟩;have aG:g < L.heap.size:=(r.lt g rfl).2;have av:n.heap.size<=g:=(r.lt g rfl).1;obtain⟨W2,H⟩:∃W,L.alloc (.cells #[.slice (some ⟨g,0,none⟩) l.length l.length] 89)=W:=⟨_,rfl⟩;have Y:=alb0v0v1 H;have f:Below n.heap.size n W2:=V.trans (Y.mono V.size);have ar:=bKq0v0v0 f al (show w.heap.size < n.heap.size by omega);have ak:Hid _:=alx0v0v1 H
  have aj:Hid (W2.heap[w.heap.size+1]? =some (.cells #[.slice none 0 0] 89 (0,0))):=(f.block _ J).trans ai.out;have ad:=Q02 (h0.out.trans (f.mono h0.out.size));have ay:=alz0v0v1 H
  have af:Hid (W2.ownsRow n.heap.size Q1B 5 (.slice (some ⟨g,0,none⟩) l.length l.length) l.length ((Q3D Q0g l 0).flatMap Q0g.cs)):=by
   have h:W2.ownsRow n.heap.size Q1B 5 (.slice (some ⟨g,0,none⟩) l.length l.length) (List.replicate l.length sl0).length ((List.replicate l.length sl0).flatMap Q0g.cs):=Q03 r Y;rw[List.length_replicate]at h;unfold Hid;rw[Q8w];exact h
  clear r V Y f al ai B
  have aN:w.heap.size+1 < L.heap.size:=by omega
  go_wp2
  go_loopw [27] (fun i wr=> ∃k:Nat,k<=l.length/\i=.int .i64 k/\Hid (Q7Z l k)/\Hid (wr.ownsRow n.heap.size Q1B 5 (.slice (some ⟨g,0,none⟩) l.length l.length) l.length ((Q3D Q0g l k).flatMap Q0g.cs))/\Hid (wr.heap[w.heap.size+1]? =some (.cells #[.slice none 0 0] 89 (0,0)))/\Hid (wr.heap[L.heap.size]? =some (.cells #[.slice (some ⟨g,0,none⟩) l.length l.length] 89 (0,0)))/\Hid (Below w.heap.size w wr)/\L.heap.size < wr.heap.size)
   (fun i _=>l.length - (intOf i).toNat)
  case atStart=>exact⟨0,Kcq _,rfl,fun i hi=>absurd hi (KMq _),af,aj,ak,ad,ay⟩
  case round=>
   clear af aj ak ad ar H;obtain⟨k,hk,rfl,T,HO,HR,P,m,ab⟩:=hrel;have r1:=Q0k HR.out 0 _ rfl
   have f1:wr.frozen? ⟨w.heap.size+1,0,none⟩=false:=by have h:=HR.out;simp[World.frozen?,h]
   by_cases hlt:k < l.length
   ·obtain⟨s,ac⟩:∃s,l.getD k sl0=s:=⟨_,rfl⟩
    have q:=RdL.slot (C:=w.heap.size) HC.out k hlt;rw[ac]at q;have e0:=(m.out.cell (p:=⟨b,off+k * 5,none⟩) D).trans q.1;have e1:=(m.out.cell (p:=⟨b,off+k * 5+1,none⟩) D).trans q.2.1;have e2:=(m.out.cell (p:=⟨b,off+k * 5+2,none⟩) D).trans q.2.2.1;have e3:=(m.out.cell (p:=⟨b,off+k * 5+3,none⟩) D).trans q.2.2.2.1;have e4:=(m.out.cell (p:=⟨b,off+k * 5+4,none⟩) D).trans q.2.2.2.2
    have aH:(k:Int) < (l.length:Int):=by omega
    obtain⟨W3,U⟩:∃W,wr.alloc (.cells #[.bool s.u,.int .i64 s.a,.int .i64 s.p,.int .i64 s.v,.int .i64 s.t] 101)=W:=⟨_,rfl⟩;have x:=alb0v0v1 U;have HX:=Q02 ac;have R:=Q02 x;obtain⟨g0,g1,g2,g3,g4⟩:=alc5v0v1 U;clear q ac x;go_wp2_with fail;refine(Qao s W3).mono ?_;rintro e w4 ⟨s',rfl,aa,X⟩;obtain⟨A,an⟩:∃W,w4.alloc (.cells #[.bool s'.u,.int .i64 s'.a,.int .i64 s'.p,.int .i64 s'.v,.int .i64 s'.t] 165)=W:=⟨_,rfl⟩;have y:Below wr.heap.size wr A:=R.out.trans ((X.trans (by rw[<-an];exact KBq.alloc (by have:=X.size;omega) _)).mono R.out.size)
    obtain⟨q0,q1,q2,q3,q4⟩:=alc5v0v1 an;have ae:=Q02 (m.out.trans (y.mono m.out.size));have N:Hid (A.heap[w.heap.size+1]? =some (.cells #[.slice none 0 0] 89 (0,0))):=(y.block _ (by omega)).trans HR.out;have ag:Hid (A.heap[L.heap.size]? =some (.cells #[.slice (some ⟨g,0,none⟩) l.length l.length] 89 (0,0))):=(y.block _ ab).trans P.out;have ap:L.heap.size < A.heap.size:=Kbq ab y.size;have d:=Q03 HO.out y;clear R X y g0 g1 g2 g3 g4 e0 e1 e2 e3 e4 r1 f1 HR P m HO U
    cases hsb:Q29 s with
    |false=>
     have M:=Q02 (Q2F hlt (Q4I (by rw[HX.out];exact hsb)));have r1:=Q0k N.out 0 _ rfl
     have f1:A.frozen? ⟨w.heap.size+1,0,none⟩=false:=by have h:=N.out;simp[World.frozen?,h]
     clear d hsb aa T;go_wp2;refine bodyPost_ret (v:=.tuple #[tab (.slice none 0 0),.bool false]) (by simp[results,Tryz.results76,go_sem,r1]) rfl ⟨_,_,_,by rw[<-M.out],.inl ⟨rfl,M.out.symm⟩, ?_⟩;exact ae.out.setCell (p:=⟨w.heap.size+1,0,none⟩) (by simp) _
    |true=>
     obtain rfl:=aa hsb;have HT:=Q02 (QaW T.out (by rw[HX.out];exact hsb));have t4:=Q0k ag.out 0 _ rfl
     have aw:((Q3D Q0g l k).flatMap Q0g.cs).length=l.length * 5:=by rw[Q0l,Q6x Q0g l k hk];rfl
     obtain⟨u0,aI⟩:∃u,A.cell? ⟨g,k * 5,none⟩=some u:=⟨_,(d.cellAt (k * 5) (by omega)).trans (KGq (by omega))⟩;have aB:=d.frozenAt (k * 5);obtain⟨u1,aJ⟩:∃u,A.cell? ⟨g,k * 5+1,none⟩=some u:=⟨_,(d.cellAt (k * 5+1) (by omega)).trans (KGq (by omega))⟩;have aC:=d.frozenAt (k * 5+1);obtain⟨u2,aK⟩:∃u,A.cell? ⟨g,k * 5+2,none⟩=some u:=⟨_,(d.cellAt (k * 5+2) (by omega)).trans (KGq (by omega))⟩;have aD:=d.frozenAt (k * 5+2)
     obtain⟨u3,aL⟩:∃u,A.cell? ⟨g,k * 5+3,none⟩=some u:=⟨_,(d.cellAt (k * 5+3) (by omega)).trans (KGq (by omega))⟩;have aE:=d.frozenAt (k * 5+3);obtain⟨u4,aM⟩:∃u,A.cell? ⟨g,k * 5+4,none⟩=some u:=⟨_,(d.cellAt (k * 5+4) (by omega)).trans (KGq (by omega))⟩;have aF:=d.frozenAt (k * 5+4);have G:=Q02 (Q3Q (k:=k) s' av d (Below.refl n.heap.size A));have aq:=Q02 (show(Q3D Q0g l k).set k s'=Q3D Q0g l (k+1)by rw[<-HX.out];exact Qal Q0g l k hlt);clear d aw hsb aa T;go_wp2;go_roundw
     case rel=>exact⟨k+1,hlt,by go_num,HT,(by have h:=G.out.1;rw[aq.out]at h;exact h),(G.out.2.block _ J).trans N.out,(by
       repeat (refine(Below.heap_setCell _ _ _ _ (by simp;omega)).trans ?_)
       exact ag.out),ae.out.trans (G.out.2.mono (by have:=h0.out.size;omega)),Kbq ap G.out.2.size⟩
     case measure=>simp[intOf];omega
   ·have e:k=l.length:=by omega
    subst e;have F:=HO.out;rw[Qaa]at F;have z:=Q02 F;clear F HO;have t4:=Q0k P.out 0 _ rfl
    have ao:g < wr.heap.size:=by omega
    have Z:=ownsRow_setCell_below z.out (a:=⟨w.heap.size+1,0,none⟩) (show w.heap.size+1 < n.heap.size from J) (.slice (some ⟨g,0,none⟩) l.length l.length);have hA:=Q42 g 0 l.length l wr.drew (by omega) hl T.out ao (fun i hi j hj=>Q1i z.out rfl i hi j hj);have am:=Q42 g 0 l.length l (wr.setCell ⟨w.heap.size+1,0,none⟩ (.slice (some ⟨g,0,none⟩) l.length l.length)).drew (by omega) hl T.out (by simpa using ao) (fun i hi j hj=>Q1i Z rfl i hi j hj);rw[Q9g hn au T.out]at hA am;have aA:=Q02 Z
    have O:Hid (wr.drew.ownsRow n.heap.size Q1B 5 (.slice (some ⟨g,0,none⟩) l.length l.length) l.length (l.flatMap Q0g.cs)):=z.out
    have I:w.heap.size+1 < wr.heap.size:=by omega
    have ax:w.heap.size+1 < (wr.setCell ⟨w.heap.size+1,0,none⟩ (.slice (some ⟨g,0,none⟩) l.length l.length)).heap.size:=by simpa using I
    have cB:(wr.setCell ⟨w.heap.size+1,0,none⟩ (.slice (some ⟨g,0,none⟩) l.length l.length)).cell? ⟨w.heap.size+1,0,none⟩=some (.slice (some ⟨g,0,none⟩) l.length l.length):=World.cell?_setCell_same' wr ⟨w.heap.size+1,0,none⟩ _ (by rw[r1];rfl);clear Z T;go_wp2
    first|(go_region_with (first|(go_at_call 126;refine hA.mono ?_;rintro e w2 ⟨rfl,f⟩;have m1:=(f.cell (p:=⟨w.heap.size+1,0,none⟩) I).trans r1;have mf:=(f.frozen (p:=⟨w.heap.size+1,0,none⟩) I).trans f1;have m4:=(f.cell (p:=⟨L.heap.size,0,none⟩) ab).trans t4;have ah:=Q02 f;clear f)|(go_at_call 126;refine am.mono ?_;rintro e w3 ⟨rfl,x⟩;have m1:=(x.cell (p:=⟨w.heap.size+1,0,none⟩) ax).trans cB;have az:=Q02 x;clear x)))|fail
    all_goals go_wp2
    all_goals refine bodyPost_ret (v:=.tuple #[tab (.slice (some ⟨g,0,none⟩) l.length l.length),.bool (Q0e l)]) (by simp[results,Tryz.results76,go_sem,m1]) rfl ⟨_,_,_,rfl,.inr ⟨g,rfl,rfl,rfl, ?_⟩, ?_⟩
    all_goals first
     |exact Q04 (ownsRow_setCell_below (Q03 O.out ah.out) (show w.heap.size+1 < n.heap.size from J) _) h0.out.size
     |exact((KHq m.out).trans (ah.out.mono (Kdq (Nat.le_succ _) (KIq I)))).setCell (p:=⟨w.heap.size+1,0,none⟩) (by simp) _
 ·have M:=Q02 (Q6m hlen)
  by_cases h1:(l.length:Int) < 1
  ·go_enter Tryz.func76,Tryz.ntmps76
   go_wp2;refine bodyPost_ret (v:=.tuple #[tab (.slice none 0 0),.bool false]) (by simp[results,Tryz.results76,go_sem]) rfl ⟨_,_,_,by rw[<-M.out],.inl ⟨rfl,M.out.symm⟩, ?_⟩
   (repeat (first|with_reducible (first|exact hB|exact KBq|refine KHq ?_|refine below_drewN ?_ _|refine KOq ?_ ?_ _|refine KNq ?_ ?_ _)|(focus (simp;first|done|omega))|omega))
  ·have h2:(16:Int) < l.length:=by omega
   go_enter Tryz.func76,Tryz.ntmps76;go_wp2;refine bodyPost_ret (v:=.tuple #[tab (.slice none 0 0),.bool false]) (by simp[results,Tryz.results76,go_sem]) rfl ⟨_,_,_,by rw[<-M.out],.inl ⟨rfl,M.out.symm⟩, ?_⟩
   (repeat (first|with_reducible (first|exact hB|exact KBq|refine KHq ?_|refine below_drewN ?_ _|refine KOq ?_ ?_ _|refine KNq ?_ ?_ _)|(focus (simp;first|done|omega))|omega))
theorem Q9i (o:Option Addr) (c:Nat) (l:List Sl) (w:World) (i:RdS w.heap.size w o l) (k:l.length<=1048576):
  Calls Tryz.prog 76 #[tab (.slice o l.length c)] w fun e f=> ∃d b a,e=.returned (.tuple #[tab (.slice d b a),.bool (Q0e l)])/\(Q0e l=true->∃g,d=some ⟨g,0,none⟩/\b=l.length/\a=l.length/\ownL Q0g Q1B f w.heap.size (.slice (some ⟨g,0,none⟩) l.length l.length) l)/\Below w.heap.size w f:=by
 refine(Q5o o c l w i k).mono ?_;rintro e f ⟨d,b,a,rfl,h,j⟩;refine⟨d,b,a,rfl,fun m=>?_,j⟩
 rcases h with⟨_,h⟩|h
 ·rw[m]at h;cases h
 ·exact h
end Go.Proofs.YtpneolgdghbinaaGreat
