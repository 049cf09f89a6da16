/- The program's nextToGo: which hint leaves first. -/
import Derived.Test.YtpneolgdghbinaaGreatQCrashesL21
import Derived.Test.YtpneolgdghbinaaGreatQCrashesL04
namespace Go.Proofs.YtpneolgdghbinaaGreat
open Go.ChangeShapes Go.WideShapes Go.ChangeAt Go.RowKit Go.Joins
set_option linter.unusedVariables false
set_option linter.unusedSimpArgs false
set_option maxRecDepth 100000
set_option maxHeartbeats 40000000
abbrev atN (m:List Sl) (j:Nat):Sl:=m.getD j sl0
def lvT (l:List Sl) (now:Int) (j:Nat):Int:=max (atN l j).t now
def QaV (l:List Sl) (now:Int) (j:Nat):List Sc:=((List.range j).filter (fun i=>(atN l i).u)).map (fun i=>(lvT l now i,(i:Int)))
theorem Q6V {l:List Sl} {now:Int} {j:Nat} {z:Sc}:z∈QaV l now j↔∃i,i < j/\(atN l i).u=true/\(lvT l now i,(i:Int))=z:=by
 simp[QaV,and_assoc]
theorem Qcg {l:List Sl} {now:Int} {j:Nat} (h:(atN l j).u=true):QaV l now (j+1)=QaV l now j++[(lvT l now j,(j:Int))]:=by
 have e:List.filter (fun i=>(atN l i).u) [j]=[j]:=by show(match (atN l j).u with|true=>j::[]|false=> [])=[j];rw[h]
 unfold QaV;rw[List.range_succ,List.filter_append,List.map_append,e];rfl
theorem Qho {l:List Sl} {now:Int} {j:Nat} (h:(atN l j).u=false):QaV l now (j+1)=QaV l now j:=by
 unfold QaV;rw[List.range_succ,List.filter_append,List.map_append,List.filter_cons_of_neg (by rw[h];decide)];simp
theorem Qc4 {l:List Sl} {now:Int} {j:Nat}:(lvT l now j,(j:Int))∉QaV l now j:=fun h=>by
 obtain⟨i,hi,_,e⟩:=Q6V.1 h;have:=(Prod.mk.inj e).2;omega
def Q8B (l:List Sl) (now:Int) (j:Nat):Prop:=j < l.length/\(atN l j).u=true/\∀i,i < l.length->(atN l i).u=true->16 * lvT l now j+(j:Int)<=16 * lvT l now i+(i:Int)
def Q9R (l:List Sl):Prop:=∀i,i < l.length->(atN l i).u=false
theorem Dep.BrdV.kept {k:Nat} {v:Value} {w w':World} {l:List Sc} (h:Dep.BrdV k v w l) (hb:Below w.heap.size w w'):Dep.BrdV k v w' l:=⟨(hb.block k h.lt).trans h.box,Q03 h.row hb⟩
theorem QgS {l:List Sl} {now:Int} {lb:List Sc} (g:Dep.HeapP lb lb.length) (c:Holds lb (QaV l now l.length)) (k:0 < lb.length):∃j,Q8B l now j/\lb.getD 0 (0,0)=(lvT l now j,(j:Int)):=by
 have f:=(c.2.1 (lb.getD 0 (0,0))).1 ⟨0,k,rfl⟩;obtain⟨j,h,n,e⟩:=Q6V.1 f;refine⟨j,⟨h,n,fun i hi b=>?_⟩,e.symm⟩;obtain⟨q,m,d⟩:=(c.2.1 (lvT l now i,(i:Int))).2 (Q6V.2 ⟨i,hi,b,rfl⟩);have a:=Dep.heap_top g q m;unfold Dep.fr at a;rw[<-e,d]at a;exact a
theorem QfE {l:List Sl} {now:Int} {lb:List Sc} (a:Holds lb (QaV l now l.length)) (b:lb.length=0):Q9R l:=fun i hi=>by
 cases hu:(atN l i).u with
 |false=>rfl
 |true=>
  obtain⟨q,c,_⟩:=(a.2.1 (lvT l now i,(i:Int))).2 (Q6V.2 ⟨i,hi,hu,rfl⟩);omega
theorem Q6A (b off c n:Nat) (l:List Sl) (now:Int) (w:World) (hn:l.length=n) (au:n<=16) (ao:b < w.heap.size) (hc:∀i,i < l.length->∀j,j < Q0g.k->w.cell? ⟨b,off+i * Q0g.k+j,none⟩=(Q0g.cs (l.getD i Q0g.d))[j]?):
  Calls Tryz.prog 110 #[tab (.slice (some ⟨b,off,none⟩) n c),.int .i64 now] w fun e w'=>((∃j,Q8B l now j/\e=.returned (.tuple #[.agg #[.int .i64 (lvT l now j),.int .i64 j],.bool true]))\/(Q9R l/\e=.returned (.tuple #[.agg #[.int .i64 0,.int .i64 0],.bool false])))/\Below w.heap.size w w':=by
 obtain⟨Wa,I⟩:∃W,(w.alloc (.cells #[.slice (some ⟨b,off,none⟩) n c] 91))=W:=⟨_,rfl⟩;obtain⟨Wb,J⟩:∃W,(Wa.alloc (.cells #[.int .i64 0,.int .i64 0] 172))=W:=⟨_,rfl⟩;obtain⟨P,T⟩:∃W,(Wb.alloc (.cells #[.slice none 0 0] 213))=W:=⟨_,rfl⟩
 have ha:Wa.heap.size=w.heap.size+1:=by rw[<-I];simp
 have U:Wb.heap.size=w.heap.size+2:=by rw[<-J];simp[ha]
 have av:P.heap.size=w.heap.size+3:=by rw[<-T];simp[U]
 have ba:=alb0v0v1 I;have bb:=alb0v0v1 J;have bc:=alb0v0v1 T;have aa:Below w.heap.size w P:=(ba.trans (bb.mono (by omega))).trans (bc.mono (by omega))
 have k0:P.heap[w.heap.size]? =some (.cells #[.slice (some ⟨b,off,none⟩) n c] 91 (0,0)):=by
  rw[bc.block _ (by omega),bb.block _ (by omega),<-I];exact heap_alloc_new w _
 have k1:P.heap[w.heap.size+1]? =some (.cells #[.int .i64 0,.int .i64 0] 172 (0,0)):=by
  rw[bc.block _ (by omega),<-J,<-ha];exact heap_alloc_new Wa _
 have k2:P.heap[w.heap.size+2]? =some (.cells #[.slice none 0 0] 213 (0,0)):=by
  rw[<-T,<-U];exact heap_alloc_new Wb _
 subst I J;clear ha U ba bb bc
 have z0:P.cell? ⟨w.heap.size,0,none⟩=some (.slice (some ⟨b,off,none⟩) n c):=by simp[World.cell?,k0]
 have ai:=Q02 k1;have aj:=Q02 k2;have N:=Q02 aa;have HN:=Q02 hn;have HC:=Q02 hc;clear k0 k1 k2 aa hn hc;go_enter Tryz.func110,Tryz.ntmps110;go_wp2
 go_loopw [14] (fun iv wr=> ∃(j:Nat) (v:Value) (lb:List Sc),iv=.int .i64 j/\j<=n/\Dep.BrdV (w.heap.size+2) v wr lb/\Dep.HeapP lb lb.length/\Dep.okD lb/\Holds lb (QaV l now j)/\lb.length<=j/\Below (w.heap.size+2) P wr)
  (fun iv _=>n - (intOf iv).toNat)
 case atStart=>
  refine⟨0,.slice none 0 0,[],rfl,Kcq _,⟨aj.out,KLq _ _ _ _⟩,fun i h1 h2=>by simp at h2,fun i hi=>by simp at hi,⟨rfl,fun z=>by simp[QaV],fun i j hi=>by simp at hi⟩,Kcq _,KBq⟩
 case round=>
  obtain⟨j,v,lb,rfl,hj,t,Y,ho,h,ap,a⟩:=hrel
  by_cases hlt:j < n
  ·have ad:=HC.out j (by rw[HN.out];exact hlt)
   have M:∀q u,q < 5->(Q0g.cs (atN l j))[q]? =some u->wr.cell? ⟨b,off+j * 5+q,none⟩=some u:=fun q u M e=>by
    have h1:=ad q M;have h2:=N.out.cell (p:=⟨b,off+j * Q0g.k+q,none⟩) ao;have h3:=a.cell (p:=⟨b,off+j * Q0g.k+q,none⟩) (show b < w.heap.size+2 by omega);exact h3.trans (h2.trans (h1.trans e))
   obtain⟨su,sa,sp,sv,st,f⟩:∃su sa sp sv st,atN l j=⟨su,sa,sp,sv,st⟩:=⟨_,_,_,_,_,rfl⟩;have c0:wr.cell? ⟨b,off+j * 5,none⟩=some (.bool su):=M 0 _ (by decide) (by rw[f];rfl);have c1:wr.cell? ⟨b,off+j * 5+1,none⟩=some (.int .i64 sa):=M 1 _ (by decide) (by rw[f];rfl);have c2:wr.cell? ⟨b,off+j * 5+2,none⟩=some (.int .i64 sp):=M 2 _ (by decide) (by rw[f];rfl);have c3:wr.cell? ⟨b,off+j * 5+3,none⟩=some (.int .i64 sv):=M 3 _ (by decide) (by rw[f];rfl);have c4:wr.cell? ⟨b,off+j * 5+4,none⟩=some (.int .i64 st):=M 4 _ (by decide) (by rw[f];rfl);clear M ad;have aw:=a.size
   cases su with
   |false=>
    have Z:=Q02 (show Holds lb (QaV l now (j+1))by rw[Qho (by rw[f])];exact h);have HB:=Q02 t;have r:=Q02 a;clear h t a f;go_wp2;go_roundw
    case rel=>exact⟨j+1,v,lb,by go_num,by omega,HB.out.kept (KBq.alloc (Kaq _) _),Y,ho,Z.out,by omega,r.out.alloc (by omega) _⟩
    case measure=>simp[intOf];omega
   |true=>
    obtain⟨W1,ac⟩:∃W,(wr.alloc (.cells #[.bool true,.int .i64 sa,.int .i64 sp,.int .i64 sv,.int .i64 st] 165))=W:=⟨_,rfl⟩;have y:=alb0v0v1 ac;have kx:=alx0v0v1 ac
    have x0:W1.cell? ⟨wr.heap.size,0,none⟩=some (.bool true):=by simp[World.cell?,kx]
    have x4:W1.cell? ⟨wr.heap.size,4,none⟩=some (.int .i64 st):=by simp[World.cell?,kx]
    clear kx
    by_cases h9:st < now
    ·skip
     have m:lvT l now j=now:=by unfold lvT;rw[f];simp only;omega
     have Z:=Q02 (fun l2 (h2:Same (lb++[(now,(j:Int))]) l2 (lb.length+1))=>(show Holds l2 (QaV l now (j+1))by rw[Qcg (by rw[f]),m];exact h.push (by have h8:=Qc4 (l:=l) (now:=now) (j:=j);rw[m]at h8;exact h8) h2));have HL:=Q02 (fun l2 (h2:Same (lb++[(now,(j:Int))]) l2 (lb.length+1))=>(show l2.length<=j+1 by rw[h2.1];simp;omega));have A:=Q02 (Dep.pushH_any (w.heap.size+2) v lb now j W1 (t.kept y) ho ⟨by simp,by simp;omega⟩ Y (by omega));have O:=Q02 (a.trans (y.mono (by omega)));clear h t a f m y;go_wp2_with fail;refine A.out.mono ?_
     rintro e w2 ⟨rfl,g2,an,l2,C,D,G,F,B⟩;have s:=Q02 (And.intro C (And.intro D (And.intro G (And.intro F B))));clear C D G F B c0 c1 c2 c3 c4 x0 x4 A;go_wp2;go_roundw
     case rel=>exact⟨j+1,_,l2,by go_num,by omega,s.out.1.v,s.out.2.1,s.out.2.2.2.1,Z.out l2 s.out.2.2.1,HL.out l2 s.out.2.2.1,O.out.trans s.out.2.2.2.2⟩
     case measure=>simp[intOf];omega
    ·skip
     have m:lvT l now j=st:=by unfold lvT;rw[f];simp only;omega
     have Z:=Q02 (fun l2 (h2:Same (lb++[(st,(j:Int))]) l2 (lb.length+1))=>(show Holds l2 (QaV l now (j+1))by rw[Qcg (by rw[f]),m];exact h.push (by have h8:=Qc4 (l:=l) (now:=now) (j:=j);rw[m]at h8;exact h8) h2));have HL:=Q02 (fun l2 (h2:Same (lb++[(st,(j:Int))]) l2 (lb.length+1))=>(show l2.length<=j+1 by rw[h2.1];simp;omega));have A:=Q02 (Dep.pushH_any (w.heap.size+2) v lb st j W1 (t.kept y) ho ⟨by simp,by simp;omega⟩ Y (by omega));have O:=Q02 (a.trans (y.mono (by omega)));clear h t a f m y;go_wp2_with fail;refine A.out.mono ?_
     rintro e w2 ⟨rfl,g2,an,l2,C,D,G,F,B⟩;have s:=Q02 (And.intro C (And.intro D (And.intro G (And.intro F B))));clear C D G F B c0 c1 c2 c3 c4 x0 x4 A;go_wp2;go_roundw
     case rel=>exact⟨j+1,_,l2,by go_num,by omega,s.out.1.v,s.out.2.1,s.out.2.2.2.1,Z.out l2 s.out.2.2.1,HL.out l2 s.out.2.2.1,O.out.trans s.out.2.2.2.2⟩
     case measure=>simp[intOf];omega
  ·have e:j=n:=by omega
   subst e;rw[<-HN.out]at h;have g:wr.heap[w.heap.size+1]? =some (.cells #[.int .i64 0,.int .i64 0] 172 (0,0)):=(a.block (w.heap.size+1) (by omega)).trans ai.out;have hz:=a.size;obtain⟨ov,cv,ar⟩:=t.slice;subst ar;have V:=t.cell
   by_cases h0:lb.length=0
   ·have al:=Q02 (QfE h h0)
    have f0:wr.frozen? ⟨w.heap.size+1,0,none⟩=false:=by simp[World.frozen?,g]
    have f1:wr.frozen? ⟨w.heap.size+1,1,none⟩=false:=by simp[World.frozen?,g]
    have y0:wr.cell? ⟨w.heap.size+1,0,none⟩=some (.int .i64 0):=by simp[World.cell?,g]
    have y1:wr.cell? ⟨w.heap.size+1,1,none⟩=some (.int .i64 0):=by simp[World.cell?,g]
    have r:=Q02 (N.out.trans (a.mono (by omega)));rw[h0]at V;clear h t a g h0;go_wp2_with (go_at_call 153;refine(Dep.dpLen_any _ _ _ _).mono ?_;rintro e w9 ⟨rfl,rfl⟩);refine bodyPost_ret (v:=.tuple #[.agg #[.int .i64 0,.int .i64 0],.bool false]) (by simp[results,Tryz.results110,go_sem,y0,y1]) rfl ⟨.inr ⟨al.out,rfl⟩, ?_⟩;exact(r.out.setCell (p:=⟨w.heap.size+1,0,none⟩) (by simp) _).setCell (p:=⟨w.heap.size+1,1,none⟩) (by simp) _
   ·obtain⟨i,ab,ae⟩:=QgS Y h (by omega)
    have aq:¬((lb.length:Int)=0):=by omega
    obtain⟨gq,cq,e9⟩:=ownsRow_form t.row (by omega);injection e9 with e8 _ e7;subst e8 e7;have L:Dep.Brd (w.heap.size+2) gq cv wr lb:=⟨t.box,t.row⟩;obtain⟨nq,ag⟩:∃nq,nq+1=lb.length:=⟨lb.length - 1,by omega⟩;have H:=Q02 (Dep.popH_any (w.heap.size+2) gq cv lb nq wr L ag ho Y (by omega));rw[ae]at H;have am:=Q02 ab;have r:=Q02 (N.out.trans (a.mono (by omega)));have HK:=Q02 g;obtain⟨lv,X⟩:∃x,lvT l now i=x:=⟨_,rfl⟩;rw[X]at H;have ak:=Q02 X;obtain⟨nl,af⟩:∃x,lb.length=x:=⟨_,rfl⟩;rw[af]at V aq
    have ta:=fun t0=>Dep.assertSc t0 lv i
    clear h t a g h0 ab ae L ag X af Y ho ap;go_wp2_with (go_at_call 153;refine(Dep.dpLen_any _ _ _ _).mono ?_;rintro e w9 ⟨rfl,rfl⟩);go_wp2_with fail;refine H.out.mono ?_;rintro e w3 ⟨rfl,R⟩;have E:w3.heap[w.heap.size+1]? =some (.cells #[.int .i64 0,.int .i64 0] 172 (0,0)):=(R.block (w.heap.size+1) (by omega)).trans HK.out
    have f0:w3.frozen? ⟨w.heap.size+1,0,none⟩=false:=by simp[World.frozen?,E]
    have f1:w3.frozen? ⟨w.heap.size+1,1,none⟩=false:=by simp[World.frozen?,E]
    have y0:w3.cell? ⟨w.heap.size+1,0,none⟩=some (.int .i64 0):=by simp[World.cell?,E]
    have y1:w3.cell? ⟨w.heap.size+1,1,none⟩=some (.int .i64 0):=by simp[World.cell?,E]
    have ah:=Q02 (r.out.trans (R.mono (by omega)));clear R E HK H r V;go_wp2;refine bodyPost_ret (v:=.tuple #[.agg #[.int .i64 lv,.int .i64 i],.bool true]) (by simp[results,Tryz.results110,go_sem,y0,y1]) rfl ⟨.inl ⟨i,am.out,by rw[ak.out]⟩, ?_⟩;exact(ah.out.setCell (p:=⟨w.heap.size+1,0,none⟩) (by simp) _).setCell (p:=⟨w.heap.size+1,1,none⟩) (by simp) _
end Go.Proofs.YtpneolgdghbinaaGreat
