/- The program's tableFrom. -/
import Derived.Test.YteffhdcankkfkaaGreatQListed15
import Derived.Test.YteffhdcankkfkaaGreatQListed36
namespace Go.Proofs.YteffhdcankkfkaaGreat
open Go.ChangeShapes Go.WideShapes Go.ChangeAt Go.RowKit Go.Joins
set_option linter.unusedVariables false
set_option linter.unusedSimpArgs false
set_option maxRecDepth 100000
set_option maxHeartbeats 40000000
theorem Q6f {e:TypeId} {w:World} {base g n c:Nat} {l:List Sl} (h:w.ownsRow base e 5 (.slice (some ⟨g,0,none⟩) n c) n (l.flatMap Q0u.cs)) (f:n=l.length):∀i,i < l.length->∀j,j < Q0u.k->w.cell? ⟨g,0+i * Q0u.k+j,none⟩=(Q0u.cs (l.getD i Q0u.d))[j]? :=fun i hi j b=>by
 have a:i * Q0u.k+j < l.length * Q0u.k:=by
  have:(i+1) * Q0u.k<=l.length * Q0u.k:=Nat.mul_le_mul_right _ hi;rw[Nat.add_mul]at this;omega
 subst f;rw[Nat.zero_add,h.cellAt _ a,Q35 Q0u l i j hi b]
theorem Q4r (o:Option Addr) (c:Nat) (l:List Sl) (w:World) (hR:RdS w.heap.size w o l) (hl:l.length<=1048576):
  Calls Tryz.prog 203 #[tab (.slice o l.length c)] w fun e w'=> ∃o' n' c',e=.returned (.tuple #[tab (.slice o' n' c'),.bool (Q0k l)])/\((n'=0/\Q0k l=false)\/∃g,o'=some ⟨g,0,none⟩/\n'=l.length/\c'=l.length/\ownL Q0u Q3m w' w.heap.size (.slice (some ⟨g,0,none⟩) l.length l.length) l)/\Below w.heap.size w w':=by
 have hB:Below w.heap.size w w:=KBq
 by_cases hlen:1<=l.length/\l.length<=16
 ·obtain⟨hn,av⟩:=hlen
  rcases hR with hR|⟨b,n,rfl,E,F⟩
  ·subst hR;simp at hn
  have HC:=Q00 F
  have i1:¬((l.length:Int) < 1):=by omega
  have i2:¬(16 < (l.length:Int)):=by omega
  obtain⟨q,D⟩:∃W,(w.alloc (.cells #[.slice (some ⟨b,n,none⟩) l.length c] 32)).alloc (.cells #[.slice none 0 0] 119)=W:=⟨_,rfl⟩
  have h0:Hid (Below w.heap.size w q):=by rw[<-D];exact(KBq.alloc (Kaq _) _).alloc (by simp) _
  have am:q.cell? ⟨w.heap.size,0,none⟩=some (.slice (some ⟨b,n,none⟩) l.length c):=by rw[<-D];simp[go_sem]
  have aj:Hid (q.heap[w.heap.size+1]? =some (.cells #[.slice none 0 0] 119 (0,0))):=by
   have h:=World.alloc_heap_new (w.alloc (.cells #[.slice (some ⟨b,n,none⟩) l.length c] 32)) (.cells #[.slice none 0 0] 119);rw[D,World.size_alloc]at h;exact h
  have L:=alz0v1v2 D;clear F hB;go_enter Tryz.func203,Tryz.ntmps203;go_wp2_with fail;refine(Q5N l.length q hl).mono ?_;rintro e M ⟨g,rfl,x,X⟩;have aH:g < M.heap.size:=(x.lt g rfl).2;have aw:q.heap.size<=g:=(x.lt g rfl).1;obtain⟨W2,I⟩:∃W,M.alloc (.cells #[.slice (some ⟨g,0,none⟩) l.length l.length] 119)=W:=⟨_,rfl⟩;have Z:=alb0v0v1 I;have f:Below q.heap.size q W2:=X.trans (Z.mono X.size);have au:=bKq0v0v0 f am (show w.heap.size < q.heap.size by omega);have al:Hid _:=alx0v0v1 I
  have ak:Hid (W2.heap[w.heap.size+1]? =some (.cells #[.slice none 0 0] 119 (0,0))):=(f.block _ L).trans aj.out;have ae:=Q00 (h0.out.trans (f.mono h0.out.size));have az:=alz0v0v1 I
  have ag:Hid (W2.ownsRow q.heap.size Q3m 5 (.slice (some ⟨g,0,none⟩) l.length l.length) l.length ((Q17 Q0u l 0).flatMap Q0u.cs)):=by
   have h:W2.ownsRow q.heap.size Q3m 5 (.slice (some ⟨g,0,none⟩) l.length l.length) (List.replicate l.length sl0).length ((List.replicate l.length sl0).flatMap Q0u.cs):=Q0a x Z;rw[List.length_replicate]at h;unfold Hid;rw[Q2f];exact h
  clear x X Z f am aj D
  have aO:w.heap.size+1 < M.heap.size:=by omega
  go_wp2
  go_loopw [27] (fun i wr=> ∃k:Nat,k<=l.length/\i=.int .i64 k/\Hid (Qak l k)/\Hid (wr.ownsRow q.heap.size Q3m 5 (.slice (some ⟨g,0,none⟩) l.length l.length) l.length ((Q17 Q0u l k).flatMap Q0u.cs))/\Hid (wr.heap[w.heap.size+1]? =some (.cells #[.slice none 0 0] 119 (0,0)))/\Hid (wr.heap[M.heap.size]? =some (.cells #[.slice (some ⟨g,0,none⟩) l.length l.length] 119 (0,0)))/\Hid (Below w.heap.size w wr)/\M.heap.size < wr.heap.size)
   (fun i _=>l.length - (intOf i).toNat)
  case atStart=>exact⟨0,Kcq _,rfl,fun i hi=>absurd hi (KMq _),ag,ak,al,ae,az⟩
  case round=>
   clear ag ak al ae au I;obtain⟨k,hk,rfl,U,HO,HR,R,m,ac⟩:=hrel;have r1:=Q05 HR.out 0 _ rfl
   have f1:wr.frozen? ⟨w.heap.size+1,0,none⟩=false:=by have h:=HR.out;simp[World.frozen?,h]
   by_cases hlt:k < l.length
   ·obtain⟨s,ad⟩:∃s,l.getD k sl0=s:=⟨_,rfl⟩
    have r:=RdL.slot (C:=w.heap.size) HC.out k hlt;rw[ad]at r;have e0:=(m.out.cell (p:=⟨b,n+k * 5,none⟩) E).trans r.1;have e1:=(m.out.cell (p:=⟨b,n+k * 5+1,none⟩) E).trans r.2.1;have e2:=(m.out.cell (p:=⟨b,n+k * 5+2,none⟩) E).trans r.2.2.1;have e3:=(m.out.cell (p:=⟨b,n+k * 5+3,none⟩) E).trans r.2.2.2.1;have e4:=(m.out.cell (p:=⟨b,n+k * 5+4,none⟩) E).trans r.2.2.2.2
    have aI:(k:Int) < (l.length:Int):=by omega
    obtain⟨W3,V⟩:∃W,wr.alloc (.cells #[.bool s.u,.int .i64 s.a,.int .i64 s.p,.int .i64 s.v,.int .i64 s.t] 201)=W:=⟨_,rfl⟩;have y:=alb0v0v1 V;have HX:=Q00 ad;have T:=Q00 y;obtain⟨g0,g1,g2,g3,g4⟩:=alc5v0v1 V;clear r ad y;go_wp2_with fail;refine(Qa5 s W3).mono ?_;rintro e w4 ⟨s',rfl,ab,Y⟩;obtain⟨B,ao⟩:∃W,w4.alloc (.cells #[.bool s'.u,.int .i64 s'.a,.int .i64 s'.p,.int .i64 s'.v,.int .i64 s'.t] 271)=W:=⟨_,rfl⟩;have z:Below wr.heap.size wr B:=T.out.trans ((Y.trans (by rw[<-ao];exact KBq.alloc (by have:=Y.size;omega) _)).mono T.out.size)
    obtain⟨q0,q1,q2,q3,q4⟩:=alc5v0v1 ao;have af:=Q00 (m.out.trans (z.mono m.out.size));have O:Hid (B.heap[w.heap.size+1]? =some (.cells #[.slice none 0 0] 119 (0,0))):=(z.block _ (by omega)).trans HR.out;have ah:Hid (B.heap[M.heap.size]? =some (.cells #[.slice (some ⟨g,0,none⟩) l.length l.length] 119 (0,0))):=(z.block _ ac).trans R.out;have aq:M.heap.size < B.heap.size:=Kbq ac z.size;have d:=Q0a HO.out z;clear T Y z g0 g1 g2 g3 g4 e0 e1 e2 e3 e4 r1 f1 HR R m HO V
    cases hsb:Q2a s with
    |false=>
     have N:=Q00 (Q2k hlt (Q3N (by rw[HX.out];exact hsb)));have r1:=Q05 O.out 0 _ rfl
     have f1:B.frozen? ⟨w.heap.size+1,0,none⟩=false:=by have h:=O.out;simp[World.frozen?,h]
     clear d hsb ab U;go_wp2;refine bodyPost_ret (v:=.tuple #[tab (.slice none 0 0),.bool false]) (by simp[results,Tryz.results203,go_sem,r1]) rfl ⟨_,_,_,by rw[<-N.out],.inl ⟨rfl,N.out.symm⟩, ?_⟩;exact af.out.setCell (p:=⟨w.heap.size+1,0,none⟩) (by simp) _
    |true=>
     obtain rfl:=ab hsb;have HT:=Q00 (QaR U.out (by rw[HX.out];exact hsb));have t4:=Q05 ah.out 0 _ rfl
     have ax:((Q17 Q0u l k).flatMap Q0u.cs).length=l.length * 5:=by rw[Q0f,Q1C Q0u l k hk];rfl
     obtain⟨u0,aJ⟩:∃u,B.cell? ⟨g,k * 5,none⟩=some u:=⟨_,(d.cellAt (k * 5) (by omega)).trans (KGq (by omega))⟩;have aC:=d.frozenAt (k * 5);obtain⟨u1,aK⟩:∃u,B.cell? ⟨g,k * 5+1,none⟩=some u:=⟨_,(d.cellAt (k * 5+1) (by omega)).trans (KGq (by omega))⟩;have aD:=d.frozenAt (k * 5+1);obtain⟨u2,aL⟩:∃u,B.cell? ⟨g,k * 5+2,none⟩=some u:=⟨_,(d.cellAt (k * 5+2) (by omega)).trans (KGq (by omega))⟩;have aE:=d.frozenAt (k * 5+2)
     obtain⟨u3,aM⟩:∃u,B.cell? ⟨g,k * 5+3,none⟩=some u:=⟨_,(d.cellAt (k * 5+3) (by omega)).trans (KGq (by omega))⟩;have aF:=d.frozenAt (k * 5+3);obtain⟨u4,aN⟩:∃u,B.cell? ⟨g,k * 5+4,none⟩=some u:=⟨_,(d.cellAt (k * 5+4) (by omega)).trans (KGq (by omega))⟩;have aG:=d.frozenAt (k * 5+4);have H:=Q00 (Qe7 (k:=k) s' aw d (Below.refl q.heap.size B));have ar:=Q00 (show(Q17 Q0u l k).set k s'=Q17 Q0u l (k+1)by rw[<-HX.out];exact Q2I Q0u l k hlt);clear d ax hsb ab U;go_wp2;go_roundw
     case rel=>exact⟨k+1,hlt,by go_num,HT,(by have h:=H.out.1;rw[ar.out]at h;exact h),(H.out.2.block _ L).trans O.out,(by
       repeat (refine(Below.heap_setCell _ _ _ _ (by simp;omega)).trans ?_)
       exact ah.out),af.out.trans (H.out.2.mono (by have:=h0.out.size;omega)),Kbq aq H.out.2.size⟩
     case measure=>simp[intOf];omega
   ·have e:k=l.length:=by omega
    subst e;have G:=HO.out;rw[Q2R]at G;have A:=Q00 G;clear G HO;have t4:=Q05 R.out 0 _ rfl
    have ap:g < wr.heap.size:=by omega
    have aa:=ownsRow_setCell_below A.out (a:=⟨w.heap.size+1,0,none⟩) (show w.heap.size+1 < q.heap.size from L) (.slice (some ⟨g,0,none⟩) l.length l.length);have hA:=Q3d g 0 l.length l wr.drew (by omega) hl U.out ap (fun i hi j hj=>Q6f A.out rfl i hi j hj);have an:=Q3d g 0 l.length l (wr.setCell ⟨w.heap.size+1,0,none⟩ (.slice (some ⟨g,0,none⟩) l.length l.length)).drew (by omega) hl U.out (by simpa using ap) (fun i hi j hj=>Q6f aa rfl i hi j hj);rw[Q96 hn av U.out]at hA an;have aB:=Q00 aa
    have P:Hid (wr.drew.ownsRow q.heap.size Q3m 5 (.slice (some ⟨g,0,none⟩) l.length l.length) l.length (l.flatMap Q0u.cs)):=A.out
    have J:w.heap.size+1 < wr.heap.size:=by omega
    have ay:w.heap.size+1 < (wr.setCell ⟨w.heap.size+1,0,none⟩ (.slice (some ⟨g,0,none⟩) l.length l.length)).heap.size:=by simpa using J
    have cB:(wr.setCell ⟨w.heap.size+1,0,none⟩ (.slice (some ⟨g,0,none⟩) l.length l.length)).cell? ⟨w.heap.size+1,0,none⟩=some (.slice (some ⟨g,0,none⟩) l.length l.length):=World.cell?_setCell_same' wr ⟨w.heap.size+1,0,none⟩ _ (by rw[r1];rfl);clear aa U;go_wp2
    first|(go_region_with (first|(go_at_call 233;refine hA.mono ?_;rintro e w2 ⟨rfl,f⟩;have m1:=(f.cell (p:=⟨w.heap.size+1,0,none⟩) J).trans r1;have mf:=(f.frozen (p:=⟨w.heap.size+1,0,none⟩) J).trans f1;have m4:=(f.cell (p:=⟨M.heap.size,0,none⟩) ac).trans t4;have ai:=Q00 f;clear f)|(go_at_call 233;refine an.mono ?_;rintro e w3 ⟨rfl,y⟩;have m1:=(y.cell (p:=⟨w.heap.size+1,0,none⟩) ay).trans cB;have aA:=Q00 y;clear y)))|fail
    all_goals go_wp2
    all_goals refine bodyPost_ret (v:=.tuple #[tab (.slice (some ⟨g,0,none⟩) l.length l.length),.bool (Q0k l)]) (by simp[results,Tryz.results203,go_sem,m1]) rfl ⟨_,_,_,rfl,.inr ⟨g,rfl,rfl,rfl, ?_⟩, ?_⟩
    all_goals first
     |exact Q06 (ownsRow_setCell_below (Q0a P.out ai.out) (show w.heap.size+1 < q.heap.size from L) _) h0.out.size
     |exact((KHq m.out).trans (ai.out.mono (Kdq (Nat.le_succ _) (KIq J)))).setCell (p:=⟨w.heap.size+1,0,none⟩) (by simp) _
 ·have N:=Q00 (Q5w hlen)
  by_cases h1:(l.length:Int) < 1
  ·go_enter Tryz.func203,Tryz.ntmps203
   go_wp2;refine bodyPost_ret (v:=.tuple #[tab (.slice none 0 0),.bool false]) (by simp[results,Tryz.results203,go_sem]) rfl ⟨_,_,_,by rw[<-N.out],.inl ⟨rfl,N.out.symm⟩, ?_⟩
   (repeat (first|with_reducible (first|exact hB|exact KBq|refine KHq ?_|refine below_drewN ?_ _|refine KOq ?_ ?_ _|refine KNq ?_ ?_ _)|(focus (simp;first|done|omega))|omega))
  ·have h2:(16:Int) < l.length:=by omega
   go_enter Tryz.func203,Tryz.ntmps203;go_wp2;refine bodyPost_ret (v:=.tuple #[tab (.slice none 0 0),.bool false]) (by simp[results,Tryz.results203,go_sem]) rfl ⟨_,_,_,by rw[<-N.out],.inl ⟨rfl,N.out.symm⟩, ?_⟩
   (repeat (first|with_reducible (first|exact hB|exact KBq|refine KHq ?_|refine below_drewN ?_ _|refine KOq ?_ ?_ _|refine KNq ?_ ?_ _)|(focus (simp;first|done|omega))|omega))
theorem Q4w (o:Option Addr) (c:Nat) (l:List Sl) (w:World) (i:RdS w.heap.size w o l) (k:l.length<=1048576):
  Calls Tryz.prog 203 #[tab (.slice o l.length c)] w fun e f=> ∃d b a,e=.returned (.tuple #[tab (.slice d b a),.bool (Q0k l)])/\(Q0k l=true->∃g,d=some ⟨g,0,none⟩/\b=l.length/\a=l.length/\ownL Q0u Q3m f w.heap.size (.slice (some ⟨g,0,none⟩) l.length l.length) l)/\Below w.heap.size w f:=by
 refine(Q4r o c l w i k).mono ?_;rintro e f ⟨d,b,a,rfl,h,j⟩;refine⟨d,b,a,rfl,fun m=>?_,j⟩
 rcases h with⟨_,h⟩|h
 ·rw[m]at h;cases h
 ·exact h
end Go.Proofs.YteffhdcankkfkaaGreat
