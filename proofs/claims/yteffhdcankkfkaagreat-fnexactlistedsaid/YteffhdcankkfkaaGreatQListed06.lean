/- Several texts in one: LInts, Backs, SBacks, SBacks2, LSlot, LMarkS, ShT, ShA, ShGs, LMarkB, PlaceMath, SCmd, LCmd, LCmds, LMarkC, ShJ, TableMath, SMoved, STabS, STabS2. -/
import Derived.Deep.RegionHeld3
import Derived.Test.YteffhdcankkfkaaGreatQListed05
namespace Go.Proofs.YteffhdcankkfkaaGreat
open Go.ChangeShapes Go.WideShapes Go.ChangeAt Go.RowKit Go.Joins
set_option linter.unusedVariables false
set_option linter.unusedSimpArgs false
set_option maxRecDepth 100000
set_option maxHeartbeats 40000000
theorem QcS (o:Option Addr) (len cap:Nat) (n:Int) (w:World) (a:len<=maxLen) (c:0<=n) (d:n<=1048576):
  Calls Tryz.prog 226 #[.slice o len cap,.int .i64 n] w fun e b=>e=.returned (.int .i64 (if n - len < 0 then -1 else n - len))/\w=b:=by
 unfold maxLen at a
 by_cases h:n - len < 0
 ·rw[if_pos h]
  go_enter Tryz.func226,Tryz.ntmps226;go_wp2;go_ret;exact⟨rfl,rfl⟩
 ·rw[if_neg h]
  go_enter Tryz.func226,Tryz.ntmps226;go_wp2;go_ret;exact⟨rfl,rfl⟩
def Q2p (ll:List (List Int)) (n:Int):Nat->Int
 |0=>n - ll.length
 |k+1=>Q2p ll n k - (ll.getD k []).length
theorem Q9L (ll:List (List Int)) (n:Int):∀k,Q2p ll n k<=n - ll.length
 |0=>Int.le_refl _
 |k+1=>by have:=Q9L ll n k;unfold Q2p;omega
def Qj7 (ll:List (List Int)) (n:Int):Prop:=∀k,k<=ll.length->0<=Q2p ll n k
def Qax (ll:List (List Int)) (n:Int):Int:=Q2p ll n ll.length
theorem QbQ (o:Option Addr) (a:List (List Int)) (cap:Nat) (n:Int) (w:World) (A:RdLL w.heap.size w o a) (B:a.length<=maxLen) (t:∀i,i < a.length->(a.getD i []).length<=maxLen) (J:0<=n) (L:n<=1048576):
  Calls Tryz.prog 193 #[.slice o a.length cap,.int .i64 n] w fun e H=>(e=.returned (.int .i64 (-1))\/Qj7 a n/\e=.returned (.int .i64 (Qax a n)))/\Below w.heap.size w H:=by
 have l:=B;unfold maxLen at l
 by_cases h:n - a.length < 0
 ·go_enter Tryz.func193,Tryz.ntmps193
  go_wp2;go_ret;exact⟨.inl rfl,KBq⟩
 ·go_enter Tryz.func193,Tryz.ntmps193
  go_wp2
  go_loopw [1,5] (fun n' i wr=> ∃k:Nat,k<=a.length/\i=.int .i64 k/\n'=.int .i64 (Q2p a n k)/\(∀j,j<=k->0<=Q2p a n j)/\Below w.heap.size w wr)
   (fun _ i _=>a.length - (intOf i).toNat)
  case atStart=>
   refine⟨0,Kcq _,rfl,rfl,fun j s=>?_,KBq⟩
   have:j=0:=by omega
   subst this
   show 0<=n - a.length
   omega
  case round=>
   obtain⟨k,O,rfl,rfl,c,d⟩:=hrel;have C:=Q9L a n k;have D:=c k (Kaq _)
   by_cases hlt:k < a.length
   ·obtain⟨b,G,F,y,rfl,M,N,E⟩:=((A.kept d (Kaq _)).le d.size).at (Kaq _) k hlt
    have f:=t k hlt;have p:=Q00 (show Q2p a n (k+1)=Q2p a n k - (a.getD k []).length from rfl);have x:=Q00 c;have m:=Q00 d
    have g:=fun W=>QcS F (a.getD k []).length y (Q2p a n k) W f D (by omega)
    unfold maxLen at f;clear c E d t;generalize (a.getD k []).length=q at *;generalize hlk:Q2p a n k=z at *
    by_cases hneg:z - q < 0
    ·rw[if_pos hneg]at g
     go_wp2_with fail;refine(g _).mono ?_;rintro e I ⟨rfl,rfl⟩;go_wp2;go_ret;exact⟨.inl rfl,m.out⟩
    ·rw[if_neg hneg]at g
     go_wp2_with fail;refine(g _).mono ?_;rintro e I ⟨rfl,rfl⟩;go_wp2;go_roundw
     case rel=>
      refine⟨k+1,by omega,by go_num,by rw[p.out],fun j s=>?_,m.out⟩
      rcases Nat.lt_succ_iff_lt_or_eq.1 (Nat.lt_succ_of_le s)with r|r
      ·exact x.out j (by omega)
      ·rw[r,p.out];omega
     case measure=>simp[intOf];omega
   ·have e:k=a.length:=by omega
    subst e;have u:=Q00 (show Q2p a n a.length=Qax a n from rfl);have v:=Q00 (show Qj7 a n from c);clear c;go_wp2;go_ret;exact⟨.inr ⟨v.out,Q0O u.out⟩,d⟩
theorem QdD {w wr:World} {base g c:Nat} {l:List Int} {k:Nat} (j:k < l.length) (i:base<=g) (b:wr.ownsRow w.heap.size 3 1 (.slice (some ⟨g,0,none⟩) l.length c) l.length ((Q17 Q0T l k).flatMap Q0T.cs))
  (f:Below base w wr):(wr.setCell ⟨g,k,none⟩ (.int .i64 (l.getD k 0))).ownsRow w.heap.size 3 1 (.slice (some ⟨g,0,none⟩) l.length c) l.length ((Q17 Q0T l (k+1)).flatMap Q0T.cs)/\
   Below base w (wr.setCell ⟨g,k,none⟩ (.int .i64 (l.getD k 0))):=by
 have h:=(b.stored k (.int .i64 (l.getD k 0))).1;rw[Q3s Q0T rfl (a:=l.getD k 0) rfl,show l.getD k 0=l.getD k Q0T.d from rfl,Q2I Q0T l k j]at h;exact⟨h,f.setCell (p:=⟨g,k,none⟩) i _⟩
theorem Qdr (o:Option Addr) (cap:Nat) (l:List Int) (w:World) (r:RdI w.heap.size w o l) (C:l.length<=1048576):
  Calls Tryz.prog 9 #[.slice o l.length cap] w fun e D=> ∃g,e=.returned (.slice (some ⟨g,0,none⟩) l.length l.length)/\Q9o D w.heap.size (.slice (some ⟨g,0,none⟩) l.length l.length) l/\Below w.heap.size w D:=by
 obtain⟨H,hi,v,y,z⟩:=info_parts Qbv;have B:Below w.heap.size w w:=KBq;go_enter Tryz.func9,Tryz.ntmps9;go_wp2_with (at_make;refine wpList_make_full _ rfl _ _ 22 rfl w.heap.size 3 H (.int .i64 0) 1 Tryz.underlying22 hi v y _ _ _ _ l.length rfl rfl rfl rfl ?b2 ?b3 ?b4 ?_)
 case b2=>rw[z];omega
 case b3=>unfold maxLen;omega
 case b4=>simp
 intro E a d;have m:Below w.heap.size w E:=B.grown d (Kaq _) (fun k h=>by cases h)
 have f:E.ownsRow w.heap.size 3 1 (.slice (some ⟨w.heap.size,0,none⟩) l.length l.length) l.length ((Q17 Q0T l 0).flatMap Q0T.cs):=by
  rw[Q2f,<-Q11 Q0T (.int .i64 0) rfl,show Q0T.k=1 from rfl,Nat.mul_one];exact a
 clear a d B;go_wp2
 go_loopw [4] (fun i wr=> ∃k:Nat,k<=l.length/\i=.int .i64 k/\wr.ownsRow w.heap.size 3 1 (.slice (some ⟨w.heap.size,0,none⟩) l.length l.length) l.length ((Q17 Q0T l k).flatMap Q0T.cs)/\Below w.heap.size w wr)
  (fun i _=>l.length - (intOf i).toNat)
 case atStart=>exact⟨0,Kcq _,rfl,f,m⟩
 case round=>
  obtain⟨k,G,rfl,a,j⟩:=hrel
  by_cases hlt:k < l.length
  ·rcases r with r|⟨b,q,rfl,s,c⟩
   ·subst r;simp at hlt
   have I:wr.cell? ⟨b,q+k,none⟩=some (.int .i64 (l.getD k 0)):=(j.cell (p:=⟨b,q+k,none⟩) s).trans (RdL.int c k hlt)
   have t:((Q17 Q0T l k).flatMap Q0T.cs).length=l.length:=by rw[Q0f,Q1C Q0T l k G];exact Nat.mul_one _
   have n:=a.cellAt k (by omega);have F:=a.frozenAt k;obtain⟨u,J⟩:∃u,wr.cell? ⟨w.heap.size,k,none⟩=some u:=⟨_,n.trans (KGq (by omega))⟩;have A:=Q00 (QdD (g:=w.heap.size) hlt (Kaq _) a j);clear a j n m f t c;generalize l.getD k 0=x at *;go_wp2;go_roundw
   case rel=>exact⟨k+1,by omega,by go_num,A.out.1,A.out.2⟩
   case measure=>simp[intOf];omega
  ·have e:k=l.length:=by omega
   subst e;rw[Q2R]at a;go_wp2;go_ret;exact⟨w.heap.size,rfl,a,j⟩
theorem Q9T (B C:Option Addr) (G H:Nat) (c:List (List Int)) (w:World) (y:RdLL w.heap.size w B c) (h2:RdLL w.heap.size w C c) (R:c.length<=1048576) (A:∀i,i < c.length->(c.getD i []).length<=1048576):
  Calls Tryz.prog 187 #[.slice B c.length G,.slice C c.length H] w fun e J=>e=.returned (.bool true)/\Below w.heap.size w J:=by
 go_enter Tryz.func187,Tryz.ntmps187;go_wp2
 go_loopw [5] (fun i wr=> ∃k:Nat,k<=c.length/\i=.int .i64 k/\Below w.heap.size w wr)
  (fun i _=>c.length - (intOf i).toNat)
 case atStart=>exact⟨0,Kcq _,rfl,KBq⟩
 case round=>
  obtain⟨k,P,rfl,a⟩:=hrel
  by_cases hlt:k < c.length
  ·obtain⟨N,D,t,j,rfl,m,d,g⟩:=((y.kept a (Kaq _)).le a.size).at (Kaq _) k hlt
   obtain⟨O,E,u,l,rfl,n,f,h⟩:=((h2.kept a (Kaq _)).le a.size).at (Kaq _) k hlt;have s:=A k hlt;have x:=Q00 a;have L:=Grown.cell d m;have M:=Grown.cell f n;have F:=Q00 (fun p:Grown wr=>Q6G t u j l (c.getD k []) p.v ((g.kept p.b (Kaq _)).le p.b.size) ((h.kept p.b (Kaq _)).le p.b.size) s);clear a g h A y h2 d f
   have T:(k:Int) < (c.length:Int):=by omega
   generalize c.getD k []=row at *;go_wp2
   (refine Q0b (by kernel_rfl) (by kernel_rfl) ?_;intro z;(repeat (go_big_quiet_step ((go_at_call 12;exact Q0r _ (F.out _)))));(with_reducible refine wpQuiet_nil ?_);intro _ r;obtain⟨I,q⟩:=r;subst q)
   go_wp2;go_roundw
   case rel=>exact⟨k+1,by omega,by go_num,x.out.trans (I.b.mono x.out.size)⟩
   case measure=>simp[intOf];omega
  ·have e:k=c.length:=by omega
   subst e;go_wp2;go_ret;exact⟨rfl,a⟩
abbrev Bk:=Int × Int × Bool
def Q0L:Lay Bk:=⟨3,fun a=> [.int .i64 a.1,.int .i64 a.2.1,.bool a.2.2],(0,0,false),fun _=>rfl⟩
abbrev back (i g:Int) (d:Bool):Value:=.agg #[.int .i64 i,.int .i64 g,.bool d]
abbrev RdK:=RdL Q0L
abbrev Q1F:=ownL Q0L 259
theorem RdL.back {C:Nat} {w:World} {b a:Nat} {l:List Bk} (h:∀i,i < l.length->∀j,j < Q0L.k->w.cell? ⟨b,a+i * Q0L.k+j,none⟩=(Q0L.cs (l.getD i Q0L.d))[j]?) (i:Nat) (hi:i < l.length):
  w.cell? ⟨b,a+i * 3,none⟩=some (.int .i64 (l.getD i (0,0,false)).1)/\w.cell? ⟨b,a+i * 3+1,none⟩=some (.int .i64 (l.getD i (0,0,false)).2.1)/\w.cell? ⟨b,a+i * 3+2,none⟩=some (.bool (l.getD i (0,0,false)).2.2):=
 ⟨h i hi 0 (by decide),h i hi 1 (by decide),h i hi 2 (by decide)⟩
theorem Q8F:Tryz.prog.cellsOf 285=3:=by kernel_rfl
theorem Qcz:(Tryz.prog.info? 259).map (fun i=>(i.zero,i.size,i.bytes))=some (some (.agg #[.int .i64 0,.int .i64 0,.bool false]),3,24):=by kernel_rfl
theorem Qf9:Tryz.prog.cellsOf 3=1:=by kernel_rfl
theorem QdN:Tryz.prog.cellsOf 4=1:=by kernel_rfl
theorem Q5X {H:Type} {enc:TypeId × Value->H} {W:World} {d:Nat} {cs:List Value} {x:DataW H × List MemPlace} (h:DataW.trod enc Tryz.prog W 0 (fun _=>true) true d 51 cs=some x):
  ∃(o:Option Addr) (cap:Nat) (l:List Bk),cs=[.slice o l.length cap]/\l.length<=maxLen/\RdK W.heap.size W o l:=by
 refine Q3w Q0L (by decide) Tryz.underlying51 Q8F ?_ h;intro n cs y p q
 match cs,p with
 |[c0,c1,c2],_=>
  obtain⟨r,s,t,m,_,_,j,k,h2⟩:=Go.Deep.trod_struct3 Tryz.underlying285 q;simp[Qf9,QdN]at j k h2;obtain⟨a,f,_,_⟩:=DataW.trod_int Tryz.underlying3 j;obtain⟨b,g,_,_⟩:=DataW.trod_int Tryz.underlying3 k;obtain⟨c,i,_⟩:=DataW.trod_bool Tryz.underlying4 h2;simp at f g i;subst f g i;exact⟨(a,b,c),rfl⟩
theorem Qdx (i g:Int) (d:Bool) (w:World):
  Calls Tryz.prog 197 #[back i g d] w fun e b=>e=.returned (back i g d)/\Below w.heap.size w b:=by
 have a:Below w.heap.size w w:=KBq;go_enter Tryz.func197,Tryz.ntmps197;go_wp2;refine bodyPost_ret (v:=.agg #[.int .i64 i,.int .i64 g,.bool d]) (by simp[results,Tryz.results197,go_sem]) rfl ⟨rfl, ?_⟩
 (repeat (first|with_reducible (first|exact a|exact KBq|refine KHq ?_|refine below_drewN ?_ _|refine KOq ?_ ?_ _|refine KNq ?_ ?_ _)|(focus (simp;first|done|omega))|omega))
theorem Qbj (i g:Int) (d:Bool) (w:World):
  Calls Tryz.prog 186 #[back i g d,back i g d] w fun e b=>e=.returned (.bool true)/\Below w.heap.size w b:=by
 have a:Below w.heap.size w w:=KBq;go_enter Tryz.func186,Tryz.ntmps186;go_wp2
 all_goals go_ret
 all_goals exact⟨rfl,by(repeat (first|with_reducible (first|exact a|exact KBq|refine KHq ?_|refine below_drewN ?_ _|refine KOq ?_ ?_ _|refine KNq ?_ ?_ _)|(focus (simp;first|done|omega))|omega))⟩
theorem Qbr (o:Option Addr) (len cap:Nat) (n:Int) (w:World) (a:len<=maxLen) (c:0<=n) (d:n<=1048576):
  Calls Tryz.prog 150 #[.slice o len cap,.int .i64 n] w fun e b=>e=.returned (.int .i64 (if n - len < 0 then -1 else n - len))/\w=b:=by
 unfold maxLen at a
 by_cases h:n - len < 0
 ·rw[if_pos h]
  go_enter Tryz.func150,Tryz.ntmps150;go_wp2;go_ret;exact⟨rfl,rfl⟩
 ·rw[if_neg h]
  go_enter Tryz.func150,Tryz.ntmps150;go_wp2;go_ret;exact⟨rfl,rfl⟩
theorem Qdg {w wr:World} {base g c:Nat} {l:List Bk} {k:Nat} {x y:Int} {z:Bool} (i:l.getD k (0,0,false)=(x,y,z)) (m:k < l.length) (f:base<=g) (b:wr.ownsRow w.heap.size 259 3 (.slice (some ⟨g,0,none⟩) l.length c) l.length ((Q17 Q0L l k).flatMap Q0L.cs))
  (j:Below base w wr):(((wr.setCell ⟨g,k * 3,none⟩ (.int .i64 x)).setCell ⟨g,k * 3+1,none⟩ (.int .i64 y)).setCell ⟨g,k * 3+2,none⟩ (.bool z)).ownsRow w.heap.size 259 3 (.slice (some ⟨g,0,none⟩) l.length c) l.length ((Q17 Q0L l (k+1)).flatMap Q0L.cs)/\
   Below base w (((wr.setCell ⟨g,k * 3,none⟩ (.int .i64 x)).setCell ⟨g,k * 3+1,none⟩ (.int .i64 y)).setCell ⟨g,k * 3+2,none⟩ (.bool z)):=by
 have h:=(((b.stored (k * 3) (.int .i64 x)).1.stored (k * 3+1) (.int .i64 y)).1.stored (k * 3+2) (.bool z)).1;rw[Q2T Q0L rfl (a:=(x,y,z)) rfl,<-i,show l.getD k (0,0,false)=l.getD k Q0L.d from rfl,Q2I Q0L l k m]at h;exact⟨h,((j.setCell (p:=⟨g,k * 3,none⟩) f _).setCell (p:=⟨g,k * 3+1,none⟩) f _).setCell (p:=⟨g,k * 3+2,none⟩) f _⟩
theorem QaQ (o:Option Addr) (cap:Nat) (l:List Bk) (w:World) (E:RdK w.heap.size w o l) (P:l.length<=1048576):
  Calls Tryz.prog 155 #[.slice o l.length cap] w fun e R=> ∃g,e=.returned (.slice (some ⟨g,0,none⟩) l.length l.length)/\Q1F R w.heap.size (.slice (some ⟨g,0,none⟩) l.length l.length) l/\Below w.heap.size w R:=by
 obtain⟨i0,hi,J,L,M⟩:=info_parts Qcz;have O:Below w.heap.size w w:=KBq;go_enter Tryz.func155,Tryz.ntmps155;go_wp2_with (at_make;refine wpList_make_full _ rfl _ _ 26 rfl w.heap.size 259 i0 (.agg #[.int .i64 0,.int .i64 0,.bool false]) 3 Tryz.underlying26 hi J L _ _ _ _ l.length rfl rfl rfl rfl ?b2 ?b3 ?b4 ?_)
 case b2=>rw[M];omega
 case b3=>unfold maxLen;omega
 case b4=>simp
 intro T c m;have A:Below w.heap.size w T:=O.grown m (Kaq _) (fun k h=>by cases h)
 have n:T.ownsRow w.heap.size 259 3 (.slice (some ⟨w.heap.size,0,none⟩) l.length l.length) l.length ((Q17 Q0L l 0).flatMap Q0L.cs):=by
  rw[Q2f,<-Q11 Q0L (.agg #[.int .i64 0,.int .i64 0,.bool false]) rfl];exact c
 clear c m O;go_wp2
 go_loopw [4] (fun i wr=> ∃k:Nat,k<=l.length/\i=.int .i64 k/\wr.ownsRow w.heap.size 259 3 (.slice (some ⟨w.heap.size,0,none⟩) l.length l.length) l.length ((Q17 Q0L l k).flatMap Q0L.cs)/\Below w.heap.size w wr)
  (fun i _=>l.length - (intOf i).toNat)
 case atStart=>exact⟨0,Kcq _,rfl,n,A⟩
 case round=>
  obtain⟨k,Y,rfl,c,d⟩:=hrel
  by_cases hlt:k < l.length
  ·rcases E with E|⟨b,ac,rfl,t,f⟩
   ·subst E;simp at hlt
   obtain⟨x,y,z,v⟩:∃x y z,l.getD k (0,0,false)=(x,y,z):=⟨_,_,_,rfl⟩;have j:=RdL.back (C:=w.heap.size) f k hlt;rw[v]at j;have F:=bKq0v0v0 d j.1 t;have G:=bKq0v0v0 d j.2.1 t;have H:=bKq0v0v0 d j.2.2 t;have HW:=Q00 (hlt);clear f j;go_wp2_with fail;refine(Qdx _ _ _ _).mono ?_;rintro e B ⟨rfl,s⟩;have D:Below w.heap.size w B:=d.trans (s.mono d.size);have a:=Q0a c s
   have I:((Q17 Q0L l k).flatMap Q0L.cs).length=l.length * 3:=by rw[Q0f,Q1C Q0L l k Y];rfl
   have p:=a.cellAt (k * 3) (by omega);have q:=a.cellAt (k * 3+1) (by omega);have r:=a.cellAt (k * 3+2) (by omega);have U:=a.frozenAt (k * 3);have V:=a.frozenAt (k * 3+1);have X:=a.frozenAt (k * 3+2);obtain⟨u0,Z⟩:∃u,B.cell? ⟨w.heap.size,k * 3,none⟩=some u:=⟨_,p.trans (KGq (by omega))⟩;obtain⟨u1,aa⟩:∃u,B.cell? ⟨w.heap.size,k * 3+1,none⟩=some u:=⟨_,q.trans (KGq (by omega))⟩;obtain⟨u2,ab⟩:∃u,B.cell? ⟨w.heap.size,k * 3+2,none⟩=some u:=⟨_,r.trans (KGq (by omega))⟩
   have N:=Q00 (Qdg (g:=w.heap.size) v hlt (Kaq _) a D);clear v c d p q r A n a F G H s I;go_wp2;go_roundw
   case rel=>exact⟨k+1,by omega,by go_num,N.out.1,N.out.2⟩
   case measure=>simp[intOf];omega
  ·have e:k=l.length:=by omega
   subst e;rw[Q2R]at c;go_wp2;go_ret;exact⟨w.heap.size,rfl,c,d⟩
theorem Q9J (H I:Option Addr) (J L:Nat) (l:List Bk) (w:World) (u:RdK w.heap.size w H l) (h2:RdK w.heap.size w I l) (O:l.length<=1048576):
  Calls Tryz.prog 138 #[.slice H l.length J,.slice I l.length L] w fun e w'=>e=.returned (.bool true)/\Below w.heap.size w w':=by
 go_enter Tryz.func138,Tryz.ntmps138;go_wp2
 go_loopw [5] (fun i wr=> ∃k:Nat,k<=l.length/\i=.int .i64 k/\Below w.heap.size w wr)
  (fun i _=>l.length - (intOf i).toNat)
 case atStart=>exact⟨0,Kcq _,rfl,KBq⟩
 case round=>
  obtain⟨k,N,rfl,b⟩:=hrel
  by_cases hlt:k < l.length
  ·rcases u with u|⟨r,c,rfl,m,h⟩
   ·subst u;simp at hlt
   rcases h2 with h2|⟨s,d,rfl,n,j⟩
   ·subst h2;simp at hlt
   obtain⟨x,y,z,t⟩:∃x y z,l.getD k (0,0,false)=(x,y,z):=⟨_,_,_,rfl⟩;have f:=RdL.back (C:=w.heap.size) h k hlt;have g:=RdL.back (C:=w.heap.size) j k hlt;rw[t]at f g;have v:=bKq0v0v0 b f.1 m;have A:=bKq0v0v0 b f.2.1 m;have B:=bKq0v0v0 b f.2.2 m;have D:=bKq0v0v0 b g.1 n;have E:=bKq0v0v0 b g.2.1 n;have F:=bKq0v0v0 b g.2.2 n;have G:=Q00 b;have q:=Q00 b.size;clear h j b f g t
   have P:(k:Int) < (l.length:Int):=by omega
   go_wp2
   go_region_held3 (fun w'=>w'.cell? ⟨r,c+k * 3,none⟩=some (.int .i64 x)/\w'.cell? ⟨r,c+k * 3+1,none⟩=some (.int .i64 y)/\w'.cell? ⟨r,c+k * 3+2,none⟩=some (.bool z)/\w'.cell? ⟨s,d+k * 3,none⟩=some (.int .i64 x)/\w'.cell? ⟨s,d+k * 3+1,none⟩=some (.int .i64 y)/\w'.cell? ⟨s,d+k * 3+2,none⟩=some (.bool z)) (first|exact⟨v,A,B,D,E,F⟩) (first|(go_at_call 186;refine(Qbj _ _ _ _).mono ?_;rintro e M ⟨rfl,a⟩;replace a:Below wr.heap.size wr M:=(KHq KBq).trans a;have v:=(a.cell (p:=⟨r,c+k * 3,none⟩) (Kbq m q.out)).trans v;have A:=(a.cell (p:=⟨r,c+k * 3+1,none⟩) (Kbq m q.out)).trans A;have B:=(a.cell (p:=⟨r,c+k * 3+2,none⟩) (Kbq m q.out)).trans B;have D:=(a.cell (p:=⟨s,d+k * 3,none⟩) (Kbq n q.out)).trans D;have E:=(a.cell (p:=⟨s,d+k * 3+1,none⟩) (Kbq n q.out)).trans E;have F:=(a.cell (p:=⟨s,d+k * 3+2,none⟩) (Kbq n q.out)).trans F))
   go_wp2;go_roundw
   case rel=>exact⟨k+1,by omega,by go_num,G.out.trans (a.mono G.out.size)⟩
   case measure=>simp[intOf];omega
  ·have e:k=l.length:=by omega
   subst e;go_wp2;go_ret;exact⟨rfl,b⟩
def Q32 (i g:Int):Bool:=decide (0<=i) && decide (i < 6) && decide (1<=g) && decide (g<=100)
theorem Q4n {i g:Int}:Q32 i g=true↔0<=i/\i < 6/\1<=g/\g<=100:=by simp[Q32,and_assoc]
def QcA (l:List Bk) (i:Nat):Bool:=Q32 (l.getD i (0,0,false)).1 (l.getD i (0,0,false)).2.1 && (decide (i=0)||decide ((l.getD (i - 1) (0,0,false)).1 < (l.getD i (0,0,false)).1))
def Qih (l:List Bk) (k:Nat):Prop:=∀i,i < k->QcA l i=true
def Q0d (l:List Bk):Bool:=(List.range l.length).all (QcA l)
theorem Q15 {l:List Bk}:Q0d l=true↔Qih l l.length:=by simp[Q0d,Qih]
theorem Qai {l:List Bk} {k:Nat} (h:Qih l k) (hk:QcA l k=true):Qih l (k+1):=fun i hi=>by
 rcases Nat.lt_succ_iff_lt_or_eq.1 hi with h1|h1
 ·exact h i h1
 ·rw[h1];exact hk
theorem Q4c {l:List Bk} {k:Nat} (hk:k < l.length) (h:QcA l k=false):false=Q0d l:=by
 cases hb:Q0d l with
 |false=>rfl
 |true=>rw[Q15.1 hb k hk]at h;cases h
theorem Qem {l:List Bk} {x y:Int} {z:Bool} (h:l.getD 0 (0,0,false)=(x,y,z)):QcA l 0=Q32 x y:=by simp only[QcA,h];simp
theorem QeQ {l:List Bk} {k:Nat} {x y a c:Int} {z d:Bool} (h:l.getD (k+1) (0,0,false)=(x,y,z)) (b:l.getD k (0,0,false)=(a,c,d)):QcA l (k+1)=(Q32 x y && decide (a < x)):=by simp only[QcA,h,b,Nat.add_sub_cancel];simp
theorem Qgz (i g:Int):Q32 i g=((decide (0<=i) && decide (i < 6)) && (decide (1<=g) && decide (g<=100))):=by simp[Q32,Bool.and_assoc]
theorem Q1U (n:Int) (w:World):Calls Tryz.prog 62 #[.int .i64 n] w fun e a=>e=.returned (.bool (decide (0<=n) && decide (n < 6)))/\w=a:=by
 go_enter Tryz.func62,Tryz.ntmps62;go_wp2
 all_goals go_ret
 all_goals refine⟨?_,rfl⟩
 all_goals first|(simp[*];done)|(simp;omega)
theorem Q5G (n:Int) (w:World):Calls Tryz.prog 258 #[.int .i64 n] w fun e a=>e=.returned (.bool (decide (1<=n) && decide (n<=100)))/\w=a:=by
 go_enter Tryz.func258,Tryz.ntmps258;go_wp2
 all_goals go_ret
 all_goals refine⟨?_,rfl⟩
 all_goals first|(simp[*];done)|(simp;omega)
theorem Q1W (i g:Int) (d:Bool) (w:World):Calls Tryz.prog 255 #[back i g d] w fun e c=>e=.returned (.bool (Q32 i g))/\Below w.heap.size w c:=by
 have a:Below w.heap.size w w:=KBq;rw[Qgz]
 cases hi:(decide (0<=i) && decide (i < 6))with
 |false=>
  go_enter Tryz.func255,Tryz.ntmps255;go_wp2_with (first|(go_at_call 62;refine(Q1U i _).mono ?_;rw[hi];rintro e b ⟨rfl,rfl⟩));go_ret;exact⟨rfl,by(repeat (first|with_reducible (first|exact a|exact KBq|refine KHq ?_|refine below_drewN ?_ _|refine KOq ?_ ?_ _|refine KNq ?_ ?_ _)|(focus (simp;first|done|omega))|omega))⟩
 |true=>
  generalize hg:(decide (1<=g) && decide (g<=100))=r;go_enter Tryz.func255,Tryz.ntmps255;go_wp2_with (first|(go_at_call 62;refine(Q1U i _).mono ?_;rw[hi];rintro e b ⟨rfl,rfl⟩)|(go_at_call 258;refine(Q5G g _).mono ?_;rw[hg];rintro e b ⟨rfl,rfl⟩));go_ret;exact⟨rfl,by(repeat (first|with_reducible (first|exact a|exact KBq|refine KHq ?_|refine below_drewN ?_ _|refine KOq ?_ ?_ _|refine KNq ?_ ?_ _)|(focus (simp;first|done|omega))|omega))⟩
theorem Qj4 (w:World) (x y z:Value) (t:TypeId):(w.alloc (.cells #[x,y,z] t)).cell? ⟨w.heap.size,0,none⟩=some x/\(w.alloc (.cells #[x,y,z] t)).cell? ⟨w.heap.size,1,none⟩=some y/\(w.alloc (.cells #[x,y,z] t)).cell? ⟨w.heap.size,2,none⟩=some z:=by simp
theorem Qen (w:World) (o:Obj) {b a:Nat} {u:Value} (h:w.cell? ⟨b,a,none⟩=some u) (c:b < w.heap.size):(w.alloc o).cell? ⟨b,a,none⟩=some u:=
 ((KOq KBq (Kaq _) o).cell (p:=⟨b,a,none⟩) c).trans h
theorem Q2o (o:Option Addr) (cap:Nat) (l:List Bk) (w:World) (M:RdK w.heap.size w o l) (O:l.length<=1048576):
  Calls Tryz.prog 239 #[.slice o l.length cap] w fun e Z=>e=.returned (.bool (Q0d l))/\Below w.heap.size w Z:=by
 go_enter Tryz.func239,Tryz.ntmps239;go_wp2
 go_loopw [2,7] (fun rv i wr=> ∃k:Nat,k<=l.length/\i=.int .i64 k/\rv=.bool false/\Qih l k/\Below w.heap.size w wr)
  (fun _ i _=>l.length - (intOf i).toNat)
 case atStart=>exact⟨0,Kcq _,rfl,rfl,fun i hi=>absurd hi (KMq _),KBq⟩
 case round=>
  obtain⟨k,hk,rfl,rfl,B,g⟩:=hrel
  by_cases hlt:k < l.length
  ·rcases M with M|⟨b,Y,rfl,n,a⟩
   ·subst M;simp at hlt
   obtain⟨x,y,z,p⟩:∃x y z,l.getD k (0,0,false)=(x,y,z):=⟨_,_,_,rfl⟩;have c:=RdL.back (C:=w.heap.size) a k hlt;rw[p]at c;have u:=bKq0v0v0 g c.1 n;have v:=bKq0v0v0 g c.2.1 n;have A:=bKq0v0v0 g c.2.2 n;have F:=Kbq n g.size;have J:=Q00 g;have t:=Q00 B
   have i1:(k:Int) < (l.length:Int):=by omega
   clear g B c;obtain⟨G,H,I⟩:=Qj4 wr (.int .i64 x) (.int .i64 y) (.bool z) 259;have r:Hid (Below w.heap.size w (wr.alloc (Obj.cells #[Value.int IntKind.i64 x,Value.int IntKind.i64 y,Value.bool z] 259))):=J.out.alloc J.out.size _
   have hs:wr.heap.size < (wr.alloc (Obj.cells #[Value.int IntKind.i64 x,Value.int IntKind.i64 y,Value.bool z] 259)).heap.size:=by simp
   rcases k with _|j
   ·have m:=Q00 (Qem p)
    clear a p;simp only[Nat.zero_mul,Nat.add_zero]at u v A;go_wp2;generalize wr.alloc (Obj.cells #[Value.int IntKind.i64 x,Value.int IntKind.i64 y,Value.bool z] 259)=w0 at *;have U:=Grown.cell G hs;have V:=Grown.cell H hs;have X:=Grown.cell I hs;clear u v A G H I
    cases hbk:Q32 x y with
    |false=>
     have D:=Q00 (Q4c hlt (m.out.trans hbk));clear m t
     (refine Q0b (by kernel_rfl) (by kernel_rfl) ?_;intro h;(repeat (go_big_quiet_step ((go_at_call 255;exact Q0r _ (hbk ▸ Q1W x y z _)))));(with_reducible refine wpQuiet_nil ?_);intro _ f;obtain⟨s,d⟩:=f;subst d)
     go_wp2;go_ret;exact⟨Q03 D.out,r.out.trans (s.b.mono r.out.size)⟩
    |true=>
     have L:=Q00 (Qai t.out (m.out.trans hbk));clear m t
     (refine Q0b (by kernel_rfl) (by kernel_rfl) ?_;intro h;(repeat (go_big_quiet_step ((go_at_call 255;exact Q0r _ (hbk ▸ Q1W x y z _)))));(with_reducible refine wpQuiet_nil ?_);intro _ f;obtain⟨s,d⟩:=f;subst d)
     go_wp2;go_roundw
     case rel=>exact⟨1,by omega,by go_num,rfl,L.out,r.out.trans (s.b.mono r.out.size)⟩
     case measure=>simp[intOf];omega
   ·obtain⟨R,y',z',q⟩:∃x y z,l.getD j (0,0,false)=(x,y,z):=⟨_,_,_,rfl⟩
    have c:=RdL.back (C:=w.heap.size) a j (by omega);rw[q]at c;have E:=bKq0v0v0 J.out c.1 n;have P:=Qen wr (Obj.cells #[Value.int IntKind.i64 x,Value.int IntKind.i64 y,Value.bool z] 259) E F;have m:=Q00 (QeQ p q)
    have i2:(j:Int) < (l.length:Int):=by omega
    have i3:0 < (j:Int)+1:=by omega
    clear a p q c E;have N:b < (wr.alloc (Obj.cells #[Value.int IntKind.i64 x,Value.int IntKind.i64 y,Value.bool z] 259)).heap.size:=Nat.lt_trans F hs;go_wp2;generalize wr.alloc (Obj.cells #[Value.int IntKind.i64 x,Value.int IntKind.i64 y,Value.bool z] 259)=w0 at *;have U:=Grown.cell G hs;have V:=Grown.cell H hs;have X:=Grown.cell I hs;have g3:=Grown.cell P N;clear u v A G H I P
    cases hbk:Q32 x y with
    |false=>
     have D:=Q00 (Q4c hlt (m.out.trans (by rw[hbk];rfl)));clear m t
     (refine Q0b (by kernel_rfl) (by kernel_rfl) ?_;intro h;(repeat (go_big_quiet_step ((go_at_call 255;exact Q0r _ (hbk ▸ Q1W x y z _)))));(with_reducible refine wpQuiet_nil ?_);intro _ f;obtain⟨s,d⟩:=f;subst d)
     go_wp2;go_ret;exact⟨Q03 D.out,r.out.trans (s.b.mono r.out.size)⟩
    |true=>
     by_cases h5:x<=R
     ·have D:=Q00 (Q4c hlt (m.out.trans (by simp[hbk];omega)))
      clear m t
      (refine Q0b (by kernel_rfl) (by kernel_rfl) ?_;intro h;(repeat (go_big_quiet_step ((go_at_call 255;exact Q0r _ (hbk ▸ Q1W x y z _)))));(with_reducible refine wpQuiet_nil ?_);intro _ f;obtain⟨s,d⟩:=f;subst d)
      go_wp2;go_ret;exact⟨Q03 D.out,r.out.trans (s.b.mono r.out.size)⟩
     ·have d5:decide (x<=R)=false:=decide_eq_false h5
      have L:=Q00 (Qai t.out (m.out.trans (by simp[hbk];omega)));clear m t
      (refine Q0b (by kernel_rfl) (by kernel_rfl) ?_;intro h;(repeat (go_big_quiet_step ((go_at_call 255;exact Q0r _ (hbk ▸ Q1W x y z _)))));(with_reducible refine wpQuiet_nil ?_);intro _ f;obtain⟨s,d⟩:=f;subst d)
      go_wp2;go_roundw
      case rel=>exact⟨j+1+1,by omega,by go_num,rfl,L.out,r.out.trans (s.b.mono r.out.size)⟩
      case measure=>simp[intOf];omega
  ·have e:k=l.length:=by omega
   subst e;have T:=Q00 (Q15.2 B).symm;go_wp2;go_ret;exact⟨Q03 T.out,g⟩
structure Sl where
 u:Bool
 a:Int
 p:Int
 v:Int
 t:Int
abbrev sl0:Sl:=⟨false,0,0,0,0⟩
def Q0u:Lay Sl:=⟨5,fun s=> [.bool s.u,.int .i64 s.a,.int .i64 s.p,.int .i64 s.v,.int .i64 s.t],sl0,fun _=>rfl⟩
abbrev slot (s:Sl):Value:=.agg #[.bool s.u,.int .i64 s.a,.int .i64 s.p,.int .i64 s.v,.int .i64 s.t]
abbrev RdS:=RdL Q0u
abbrev Qj2:=ownL Q0u 201
abbrev InS:=InL Q0u 201
theorem RdL.slot {C:Nat} {w:World} {b c:Nat} {l:List Sl} (h:∀i,i < l.length->∀j,j < Q0u.k->w.cell? ⟨b,c+i * Q0u.k+j,none⟩=(Q0u.cs (l.getD i Q0u.d))[j]?) (i:Nat) (hi:i < l.length):
  w.cell? ⟨b,c+i * 5,none⟩=some (.bool (l.getD i sl0).u)/\w.cell? ⟨b,c+i * 5+1,none⟩=some (.int .i64 (l.getD i sl0).a)/\w.cell? ⟨b,c+i * 5+2,none⟩=some (.int .i64 (l.getD i sl0).p)/\w.cell? ⟨b,c+i * 5+3,none⟩=some (.int .i64 (l.getD i sl0).v)/\w.cell? ⟨b,c+i * 5+4,none⟩=some (.int .i64 (l.getD i sl0).t):=
 ⟨h i hi 0 (by decide),h i hi 1 (by decide),h i hi 2 (by decide),h i hi 3 (by decide),h i hi 4 (by decide)⟩
theorem Q3q {α:Type} (L:Lay α) (b:L.k=5) {f g h j m:Value} {a:α} (d:L.cs a=[f,g,h,j,m]):∀(l:List α) (i:Nat),(((((l.flatMap L.cs).set (i * 5) f).set (i * 5+1) g).set (i * 5+2) h).set (i * 5+3) j).set (i * 5+4) m=(l.set i a).flatMap L.cs
 |[],i=>by simp
 |q::l,0=>by
  have c:=(L.len q).trans b
  match hc:L.cs q,c with
  |[q0,q1,q2,q3,q4],_=>simp[d,hc]
 |q::l,i+1=>by
  have c:=(L.len q).trans b
  match hc:L.cs q,c with
  |[q0,q1,q2,q3,q4],_=>
   rw[show(i+1) * 5=i * 5+1+1+1+1+1 by omega];simp only[List.flatMap_cons,hc,List.cons_append,List.nil_append,List.set_cons_succ];rw[Q3q L b d l i]
theorem Qgl:(Tryz.prog.info? 201).map (fun i=>(i.zero,i.size,i.bytes))=some (some (.agg #[.bool false,.int .i64 0,.int .i64 0,.int .i64 0,.int .i64 0]),5,40):=by kernel_rfl
theorem Q7L:Tryz.prog.cellsOf 3=1:=by kernel_rfl
theorem Qbc:Tryz.prog.cellsOf 4=1:=by kernel_rfl
theorem Q8Z:Tryz.prog.cellsOf 289=5:=by kernel_rfl
theorem Q5T {H:Type} {enc:TypeId × Value->H} {W:World} {b:Nat} {cs:List Value} {x:DataW H × List MemPlace} (h:DataW.trod enc Tryz.prog W 0 (fun _=>true) true b 54 cs=some x):
  ∃(o:Option Addr) (cap:Nat) (l:List Sl),cs=[.slice o l.length cap]/\l.length<=maxLen/\RdS W.heap.size W o l:=by
 refine Q3w Q0u (by decide) Tryz.underlying54 Q8Z ?_ h;intro n cs y w z
 match cs,w with
 |[c0,c1,c2,c3,c4],_=>
  obtain⟨B,C,D,E,m,_,_,j,k,h2,q⟩:=trod_struct4 Tryz.underlying289 z;simp[Q7L,Qbc,Q1L]at j k h2 q;obtain⟨u,c,_⟩:=DataW.trod_bool Tryz.underlying4 j;obtain⟨F,G,A,_,_,r,s⟩:=trod_struct2 Tryz.underlying71 k;simp[Q7L]at r s;obtain⟨a,d,_,_⟩:=DataW.trod_int Tryz.underlying3 r;obtain⟨p,f,_,_⟩:=DataW.trod_int Tryz.underlying3 s;obtain⟨v,g,_,_⟩:=DataW.trod_int Tryz.underlying3 h2;obtain⟨t,i,_,_⟩:=DataW.trod_int Tryz.underlying3 q;simp at c d f g i;subst c d f g i;exact⟨⟨u,a,p,v,t⟩,rfl⟩
theorem QcX (s:Sl) (w:World):
  Calls Tryz.prog 199 #[slot s] w fun e k=>e=.returned (slot s)/\Below w.heap.size w k:=by
 have g:Below w.heap.size w w:=KBq;go_enter Tryz.func199,Tryz.ntmps199
 go_wp2_with (first|(go_at_call 25;refine(Q1T s.a s.p _).mono ?_;rintro e c ⟨rfl,b⟩;obtain⟨h,j⟩:=Q0F b;have d:w.heap.size < c.heap.size:=(by have i:=b.size;(try simp at i);omega);have f:w.heap.size+1 < c.heap.size:=(by have i:=b.size;(try simp at i);omega);have g:Below w.heap.size w c:=(by refine Below.trans ?_ (b.mono (by have hs:=g.size;(try simp) <;> omega));(repeat (first|with_reducible (first|exact g|exact KBq|refine KHq ?_|refine below_drewN ?_ _|refine KOq ?_ ?_ _|refine KNq ?_ ?_ _)|(focus (simp;first|done|omega))|omega)))))
 refine bodyPost_ret (v:=slot s) (by simp[results,Tryz.results199,go_sem,h,d,f]) rfl ⟨rfl, ?_⟩
 (repeat (first|with_reducible (first|exact g|exact KBq|refine KHq ?_|refine below_drewN ?_ _|refine KOq ?_ ?_ _|refine KNq ?_ ?_ _)|(focus (simp;first|done|omega))|omega))
theorem QaX (s:Sl) (w:World):
  Calls Tryz.prog 188 #[slot s,slot s] w fun e k=>e=.returned (.bool true)/\Below w.heap.size w k:=by
 have d:Below w.heap.size w w:=KBq;go_enter Tryz.func188,Tryz.ntmps188
 go_wp2_with (first|(go_at_call 142;refine(Q33 s.a s.p _).mono ?_;rintro e c ⟨rfl,b⟩;obtain⟨i,j⟩:=Q0F b;have g:w.heap.size < c.heap.size:=(by have f:=b.size;(try simp at f);omega);have h:w.heap.size+1 < c.heap.size:=(by have f:=b.size;(try simp at f);omega);have d:Below w.heap.size w c:=(by refine Below.trans ?_ (b.mono (by have hs:=d.size;(try simp) <;> omega));(repeat (first|with_reducible (first|exact d|exact KBq|refine KHq ?_|refine below_drewN ?_ _|refine KOq ?_ ?_ _|refine KNq ?_ ?_ _)|(focus (simp;first|done|omega))|omega)))))
 all_goals go_ret
 all_goals exact⟨rfl,by(repeat (first|with_reducible (first|exact d|exact KBq|refine KHq ?_|refine below_drewN ?_ _|refine KOq ?_ ?_ _|refine KNq ?_ ?_ _)|(focus (simp;first|done|omega))|omega))⟩
theorem Qbg (o:Option Addr) (len cap:Nat) (n:Int) (w:World) (a:len<=maxLen) (c:0<=n) (d:n<=1048576):
  Calls Tryz.prog 152 #[.slice o len cap,.int .i64 n] w fun e b=>e=.returned (.int .i64 (if n - len < 0 then -1 else n - len))/\w=b:=by
 unfold maxLen at a
 by_cases h:n - len < 0
 ·rw[if_pos h]
  go_enter Tryz.func152,Tryz.ntmps152;go_wp2;go_ret;exact⟨rfl,rfl⟩
 ·rw[if_neg h]
  go_enter Tryz.func152,Tryz.ntmps152;go_wp2;go_ret;exact⟨rfl,rfl⟩
theorem Qe7 {e:TypeId} {w wr:World} {base B g c n:Nat} {l:List Sl} {k:Nat} (s:Sl) (b:B<=g) (d:wr.ownsRow base e 5 (.slice (some ⟨g,0,none⟩) n c) n (l.flatMap Q0u.cs)) (f:Below B w wr):
  (((((wr.setCell ⟨g,k * 5,none⟩ (.bool s.u)).setCell ⟨g,k * 5+1,none⟩ (.int .i64 s.a)).setCell ⟨g,k * 5+2,none⟩ (.int .i64 s.p)).setCell ⟨g,k * 5+3,none⟩ (.int .i64 s.v)).setCell ⟨g,k * 5+4,none⟩ (.int .i64 s.t)).ownsRow base e 5 (.slice (some ⟨g,0,none⟩) n c) n ((l.set k s).flatMap Q0u.cs)/\
   Below B w (((((wr.setCell ⟨g,k * 5,none⟩ (.bool s.u)).setCell ⟨g,k * 5+1,none⟩ (.int .i64 s.a)).setCell ⟨g,k * 5+2,none⟩ (.int .i64 s.p)).setCell ⟨g,k * 5+3,none⟩ (.int .i64 s.v)).setCell ⟨g,k * 5+4,none⟩ (.int .i64 s.t)):=by
 have h:=(((((d.stored (k * 5) (.bool s.u)).1.stored (k * 5+1) (.int .i64 s.a)).1.stored (k * 5+2) (.int .i64 s.p)).1.stored (k * 5+3) (.int .i64 s.v)).1.stored (k * 5+4) (.int .i64 s.t)).1;rw[Q3q Q0u rfl (a:=s) rfl]at h;exact⟨h,((((f.setCell (p:=⟨g,k * 5,none⟩) b _).setCell (p:=⟨g,k * 5+1,none⟩) b _).setCell (p:=⟨g,k * 5+2,none⟩) b _).setCell (p:=⟨g,k * 5+3,none⟩) b _).setCell (p:=⟨g,k * 5+4,none⟩) b _⟩
theorem QaY (o:Option Addr) (cap:Nat) (l:List Sl) (w:World) (y:RdS w.heap.size w o l) (M:l.length<=1048576):
  Calls Tryz.prog 157 #[.slice o l.length cap] w fun e N=> ∃g,e=.returned (.slice (some ⟨g,0,none⟩) l.length l.length)/\Qj2 N w.heap.size (.slice (some ⟨g,0,none⟩) l.length l.length) l/\Below w.heap.size w N:=by
 obtain⟨i0,hi,G,H,I⟩:=info_parts Qgl;have L:Below w.heap.size w w:=KBq;go_enter Tryz.func157,Tryz.ntmps157;go_wp2_with (at_make;refine wpList_make_full _ rfl _ _ 30 rfl w.heap.size 201 i0 (slot sl0) 5 Tryz.underlying30 hi G H _ _ _ _ l.length rfl rfl rfl rfl ?b2 ?b3 ?b4 ?_)
 case b2=>rw[I];omega
 case b3=>unfold maxLen;omega
 case b4=>simp
 intro O c n;have v:Below w.heap.size w O:=L.grown n (Kaq _) (fun k h=>by cases h)
 have p:O.ownsRow w.heap.size 201 5 (.slice (some ⟨w.heap.size,0,none⟩) l.length l.length) l.length ((Q17 Q0u l 0).flatMap Q0u.cs):=by
  rw[Q2f,<-Q11 Q0u (slot sl0) rfl];exact c
 clear c n L;go_wp2
 go_loopw [4] (fun i wr=> ∃k:Nat,k<=l.length/\i=.int .i64 k/\wr.ownsRow w.heap.size 201 5 (.slice (some ⟨w.heap.size,0,none⟩) l.length l.length) l.length ((Q17 Q0u l k).flatMap Q0u.cs)/\Below w.heap.size w wr)
  (fun i _=>l.length - (intOf i).toNat)
 case atStart=>exact⟨0,Kcq _,rfl,p,v⟩
 case round=>
  obtain⟨k,Y,rfl,c,d⟩:=hrel
  by_cases hlt:k < l.length
  ·rcases y with y|⟨b,ae,rfl,j,m⟩
   ·subst y;simp at hlt
   obtain⟨s,r⟩:∃s,l.getD k sl0=s:=⟨_,rfl⟩;have f:=RdL.slot (C:=w.heap.size) m k hlt;rw[r]at f;have z:=bKq0v0v0 d f.1 j;have A:=bKq0v0v0 d f.2.1 j;have B:=bKq0v0v0 d f.2.2.1 j;have D:=bKq0v0v0 d f.2.2.2.1 j;have E:=bKq0v0v0 d f.2.2.2.2 j;have HW:=Q00 (hlt);clear m f;go_wp2_with fail;refine(QcX s _).mono ?_;rintro e t ⟨rfl,q⟩;have x:Below w.heap.size w t:=d.trans (q.mono d.size);have a:=Q0a c q
   have F:((Q17 Q0u l k).flatMap Q0u.cs).length=l.length * 5:=by rw[Q0f,Q1C Q0u l k Y];rfl
   obtain⟨u0,Z⟩:∃u,t.cell? ⟨w.heap.size,k * 5,none⟩=some u:=⟨_,(a.cellAt (k * 5) (by omega)).trans (KGq (by omega))⟩;have R:=a.frozenAt (k * 5);obtain⟨u1,aa⟩:∃u,t.cell? ⟨w.heap.size,k * 5+1,none⟩=some u:=⟨_,(a.cellAt (k * 5+1) (by omega)).trans (KGq (by omega))⟩;have T:=a.frozenAt (k * 5+1);obtain⟨u2,ab⟩:∃u,t.cell? ⟨w.heap.size,k * 5+2,none⟩=some u:=⟨_,(a.cellAt (k * 5+2) (by omega)).trans (KGq (by omega))⟩;have U:=a.frozenAt (k * 5+2)
   obtain⟨u3,ac⟩:∃u,t.cell? ⟨w.heap.size,k * 5+3,none⟩=some u:=⟨_,(a.cellAt (k * 5+3) (by omega)).trans (KGq (by omega))⟩;have V:=a.frozenAt (k * 5+3);obtain⟨u4,ad⟩:∃u,t.cell? ⟨w.heap.size,k * 5+4,none⟩=some u:=⟨_,(a.cellAt (k * 5+4) (by omega)).trans (KGq (by omega))⟩;have X:=a.frozenAt (k * 5+4);have J:=Q00 (Qe7 (k:=k) s (Kaq _) a x);have P:=Q00 (show(Q17 Q0u l k).set k s=Q17 Q0u l (k+1)by rw[<-r];exact Q2I Q0u l k hlt);clear r c d v p a z A B D E q F;go_wp2;go_roundw
   case rel=>exact⟨k+1,by omega,by go_num,(by have:=J.out.1;rw[P.out]at this;exact this),J.out.2⟩
   case measure=>simp[intOf];omega
  ·have e:k=l.length:=by omega
   subst e;rw[Q2R]at c;go_wp2;go_ret;exact⟨w.heap.size,rfl,c,d⟩
theorem Qaz (O P:Option Addr) (R T:Nat) (l:List Sl) (w:World) (A:RdS w.heap.size w O l) (h2:RdS w.heap.size w P l) (X:l.length<=1048576):
  Calls Tryz.prog 140 #[.slice O l.length R,.slice P l.length T] w fun e w'=>e=.returned (.bool true)/\Below w.heap.size w w':=by
 go_enter Tryz.func140,Tryz.ntmps140;go_wp2
 go_loopw [5] (fun i wr=> ∃k:Nat,k<=l.length/\i=.int .i64 k/\Below w.heap.size w wr)
  (fun i _=>l.length - (intOf i).toNat)
 case atStart=>exact⟨0,Kcq _,rfl,KBq⟩
 case round=>
  obtain⟨k,V,rfl,f⟩:=hrel
  by_cases hlt:k < l.length
  ·rcases A with A|⟨x,c,rfl,j,q⟩
   ·subst A;simp at hlt
   rcases h2 with h2|⟨y,d,rfl,m,r⟩
   ·subst h2;simp at hlt
   obtain⟨s,z⟩:∃s,l.getD k sl0=s:=⟨_,rfl⟩;have g:=RdL.slot (C:=w.heap.size) q k hlt;have h:=RdL.slot (C:=w.heap.size) r k hlt;rw[z]at g h;have B:=bKq0v0v0 f g.1 j;have D:=bKq0v0v0 f g.2.1 j;have E:=bKq0v0v0 f g.2.2.1 j;have F:=bKq0v0v0 f g.2.2.2.1 j;have G:=bKq0v0v0 f g.2.2.2.2 j;have H:=bKq0v0v0 f h.1 m;have I:=bKq0v0v0 f h.2.1 m;have J:=bKq0v0v0 f h.2.2.1 m;have L:=bKq0v0v0 f h.2.2.2.1 m;have M:=bKq0v0v0 f h.2.2.2.2 m;have N:=Q00 f;have n:=Q00 f.size
   clear q r f g h z
   have Y:(k:Int) < (l.length:Int):=by omega
   go_wp2
   go_region_held3 (fun w'=>w'.cell? ⟨x,c+k * 5,none⟩=some (.bool s.u)/\w'.cell? ⟨x,c+k * 5+1,none⟩=some (.int .i64 s.a)/\w'.cell? ⟨x,c+k * 5+2,none⟩=some (.int .i64 s.p)/\w'.cell? ⟨x,c+k * 5+3,none⟩=some (.int .i64 s.v)/\w'.cell? ⟨x,c+k * 5+4,none⟩=some (.int .i64 s.t)/\w'.cell? ⟨y,d+k * 5,none⟩=some (.bool s.u)/\w'.cell? ⟨y,d+k * 5+1,none⟩=some (.int .i64 s.a)/\w'.cell? ⟨y,d+k * 5+2,none⟩=some (.int .i64 s.p)/\w'.cell? ⟨y,d+k * 5+3,none⟩=some (.int .i64 s.v)/\w'.cell? ⟨y,d+k * 5+4,none⟩=some (.int .i64 s.t)) (first|exact⟨B,D,E,F,G,H,I,J,L,M⟩) (first|(go_at_call 188;refine(QaX s _).mono ?_;rintro e U ⟨rfl,b⟩;replace b:Below wr.heap.size wr U:=(KHq KBq).trans b;have B:=(b.cell (p:=⟨x,c+k * 5,none⟩) (Kbq j n.out)).trans B;have D:=(b.cell (p:=⟨x,c+k * 5+1,none⟩) (Kbq j n.out)).trans D;have E:=(b.cell (p:=⟨x,c+k * 5+2,none⟩) (Kbq j n.out)).trans E;have F:=(b.cell (p:=⟨x,c+k * 5+3,none⟩) (Kbq j n.out)).trans F;have G:=(b.cell (p:=⟨x,c+k * 5+4,none⟩) (Kbq j n.out)).trans G;have H:=(b.cell (p:=⟨y,d+k * 5,none⟩) (Kbq m n.out)).trans H;have I:=(b.cell (p:=⟨y,d+k * 5+1,none⟩) (Kbq m n.out)).trans I;have J:=(b.cell (p:=⟨y,d+k * 5+2,none⟩) (Kbq m n.out)).trans J;have L:=(b.cell (p:=⟨y,d+k * 5+3,none⟩) (Kbq m n.out)).trans L;have M:=(b.cell (p:=⟨y,d+k * 5+4,none⟩) (Kbq m n.out)).trans M))
   go_wp2;go_roundw
   case rel=>exact⟨k+1,by omega,by go_num,N.out.trans (b.mono N.out.size)⟩
   case measure=>simp[intOf];omega
  ·have e:k=l.length:=by omega
   subst e;go_wp2;go_ret;exact⟨rfl,f⟩
def QdS (k:Int):Sl:=⟨k % 3==0,k+1,k+1+1,k+1+1+1,k+1+1+1+1⟩
theorem Q38 (base:Nat) (v:Value) (l:List Sl) (k:Int) (w:World) (hv:ownL Q0u 201 w base v l) (N:0<=k) (O:k<=1073741824) (p:l.length<=1048576):
  Calls Tryz.prog 88 #[v,.int .i64 k] w fun e r=>e=.returned (.int .i64 (k+5 * l.length))/\ownL Q0u 201 r base v (mkL QdS 5 k l.length)/\w.grownBy r v.ownBlock:=by
 rcases hv.2 with⟨rfl,h2⟩|⟨g,cap,x,rfl,P,_⟩
 ·have e:l=[]:=List.eq_nil_of_length_eq_zero h2
  subst e;go_enter Tryz.func88,Tryz.ntmps88;go_wp2;refine wp_loop_rounds 1 ?_;rw[rounds_succ];go_wp2;go_ret;exact⟨by simp,by simpa[mkL]using hv,World.grownBy.refl _ _⟩
 ·have f:w.ownsRow base 201 5 (.slice (some ⟨g,0,none⟩) l.length cap) l.length ((Q3K QdS 5 l k 0).flatMap Q0u.cs):=by rw[Q3B];exact hv
  go_enter Tryz.func88,Tryz.ntmps88;go_wp2
  go_loopw [1,5] (fun q j wr=> ∃i:Nat,i<=l.length/\j=.int .i64 i/\q=.int .i64 (k+5 * (i:Int))/\wr.ownsRow base 201 5 (.slice (some ⟨g,0,none⟩) l.length cap) l.length ((Q3K QdS 5 l k i).flatMap Q0u.cs)/\w.grownBy wr (some g))
   (fun _ j _=>l.length - (intOf j).toNat)
  case atStart=>exact⟨0,Kcq _,rfl,by simp,f,World.grownBy.refl _ _⟩
  case round=>
   obtain⟨i,hi,rfl,rfl,b,d⟩:=hrel
   by_cases hlt:i < l.length
   ·have m:((Q3K QdS 5 l k i).flatMap Q0u.cs).length=l.length * 5:=by rw[Q0f,Q2q _ _ _ _ _ hi];rfl
    have E:=Q3q Q0u rfl (a:=QdS (k+5 * (i:Int))) rfl (Q3K QdS 5 l k i) i;have n:=Q4F QdS 5 l k i hlt;have c:=E.trans (congrArg (fun z=>List.flatMap Q0u.cs z) n);simp only[QdS]at c;clear E n;have y:(k+5 * (i:Int)).tmod 3=(k+5 * (i:Int)) % 3:=Int.tmod_eq_emod_of_nonneg (by omega);generalize hxs:(Q3K QdS 5 l k i).flatMap Q0u.cs=xs at *;generalize hBB:((k+5 * (i:Int)) % 3==0)=B at *;have s1:=Q0y (j:=i * 5) (u:=.bool B) b d;have s2:=Q0y (j:=i * 5+1) (u:=.int .i64 (k+5 * (i:Int)+1)) s1.1 s1.2;have s3:=Q0y (j:=i * 5+2) (u:=.int .i64 (k+5 * (i:Int)+1+1)) s2.1 s2.2
    have s4:=Q0y (j:=i * 5+3) (u:=.int .i64 (k+5 * (i:Int)+1+1+1)) s3.1 s3.2;have s5:=Q0y (j:=i * 5+4) (u:=.int .i64 (k+5 * (i:Int)+1+1+1+1)) s4.1 s4.2;have H:=b.frozenAt (i * 5);obtain⟨R,A⟩:∃z,wr.cell? ⟨g,i * 5,none⟩=some z:=⟨_,(b.cellAt (i * 5) (by omega)).trans (KGq (by(try simp) <;> omega))⟩;have I:=s1.1.frozenAt (i * 5+1);obtain⟨T,C⟩:∃z,(wr.setCell ⟨g,i * 5,none⟩ (.bool B)).cell? ⟨g,i * 5+1,none⟩=some z:=⟨_,(s1.1.cellAt (i * 5+1) (by omega)).trans (KGq (by(try simp) <;> omega))⟩;have J:=s2.1.frozenAt (i * 5+2)
    obtain⟨U,D⟩:∃z,((wr.setCell ⟨g,i * 5,none⟩ (.bool B)).setCell ⟨g,i * 5+1,none⟩ (.int .i64 (k+5 * (i:Int)+1))).cell? ⟨g,i * 5+2,none⟩=some z:=⟨_,(s2.1.cellAt (i * 5+2) (by omega)).trans (KGq (by(try simp) <;> omega))⟩;have L:=s3.1.frozenAt (i * 5+3);obtain⟨V,F⟩:∃z,(((wr.setCell ⟨g,i * 5,none⟩ (.bool B)).setCell ⟨g,i * 5+1,none⟩ (.int .i64 (k+5 * (i:Int)+1))).setCell ⟨g,i * 5+2,none⟩ (.int .i64 (k+5 * (i:Int)+1+1))).cell? ⟨g,i * 5+3,none⟩=some z:=⟨_,(s3.1.cellAt (i * 5+3) (by omega)).trans (KGq (by(try simp) <;> omega))⟩
    have M:=s4.1.frozenAt (i * 5+4);obtain⟨X,G⟩:∃z,((((wr.setCell ⟨g,i * 5,none⟩ (.bool B)).setCell ⟨g,i * 5+1,none⟩ (.int .i64 (k+5 * (i:Int)+1))).setCell ⟨g,i * 5+2,none⟩ (.int .i64 (k+5 * (i:Int)+1+1))).setCell ⟨g,i * 5+3,none⟩ (.int .i64 (k+5 * (i:Int)+1+1+1))).cell? ⟨g,i * 5+4,none⟩=some z:=⟨_,(s4.1.cellAt (i * 5+4) (by omega)).trans (KGq (by(try simp) <;> omega))⟩;have S:=Q00 s5;have s:=Q00 c
    have Y:(i:Int) < (l.length:Int):=by omega
    clear s1 s2 s3 s4 s5 b d hv f c m;go_wp2;go_roundw
    case rel=>
     refine⟨i+1,by omega,by go_num,by go_num, ?_,S.out.2⟩;have h:=S.out.1;rw[<-s.out];exact h
    case measure=>simp[intOf];omega
   ·have e:i=l.length:=by omega
    subst e;rw[Q4s]at b;have t:=Q00 b;clear b;go_wp2;go_ret;exact⟨rfl,(by have:=t.out;unfold ownL;rw[Q1z];exact this),d⟩
abbrev tab (v:Value):Value:=.agg #[v]
theorem Q05 {W:World} {B:Nat} {c:Array Value} {t:TypeId} (h:W.heap[B]? =some (.cells c t (0,0))) (j:Nat) (u:Value) (hj:c[j]? =some u):W.cell? ⟨B,j,none⟩=some u:=by
 simp[World.cell?,h,hj]
def RdT (C:Nat) (w:World) (v:Value) (l:List Sl):Prop:=∃vl,v=tab vl/\RdV Q0u C w vl l
def InTb (lo hi:Nat) (w:World) (v:Value) (l:List Sl):Prop:=∃vl,v=tab vl/\InS lo hi w vl l
theorem RdT.kept {C D:Nat} {w w':World} {v:Value} {m:List Sl} (h:RdT C w v m) (hb:Below D w w') (hc:C<=D):RdT C w' v m:=by
 obtain⟨vl,e,h1⟩:=h;exact⟨vl,e,h1.kept hb hc⟩
theorem RdT.le {C D:Nat} {w:World} {v:Value} {m:List Sl} (h:RdT C w v m) (hc:C<=D):RdT D w v m:=by
 obtain⟨vl,e,h1⟩:=h;exact⟨vl,e,h1.le hc⟩
theorem InTb.rd {lo hi:Nat} {w:World} {v:Value} {m:List Sl} (h:InTb lo hi w v m):RdT hi w v m:=by
 obtain⟨vl,e,h1⟩:=h;exact⟨vl,e,InL.rd (L:=Q0u) h1⟩
theorem InTb.step {a b lo hi:Nat} {w w':World} {v:Value} {m:List Sl} (h:InTb a b w v m) (s:Stp lo hi w w') (hd:hi<=a\/b<=lo):InTb a b w' v m:=by
 obtain⟨vl,e,h1⟩:=h;exact⟨vl,e,InRow.step h1 s hd⟩
theorem InTb.mono {a b a' b':Nat} {w:World} {v:Value} {m:List Sl} (h:InTb a b w v m) (h1:a'<=a) (h2:b<=b'):InTb a' b' w v m:=by
 obtain⟨vl,e,h3⟩:=h;exact⟨vl,e,InRow.mono h3 h1 h2⟩
theorem InTb.row {lo hi:Nat} {w:World} {v:Value} {l:List Sl} (h:InTb lo hi w (tab v) l):InS lo hi w v l:=by
 obtain⟨vl,e,h1⟩:=h;injection e with e;simp at e;subst e;exact h1
theorem Q8d:Tryz.prog.cellsOf 56=1:=by kernel_rfl
theorem Q7k:Tryz.prog.cellsOf 54=1:=by kernel_rfl
theorem Q23 {H:Type} {enc:TypeId × Value->H} {W:World} {a:Nat} {cs:List Value} {x:DataW H × List MemPlace} (c:cs.length=1) (h:DataW.trod enc Tryz.prog W 0 (fun _=>true) true a 56 cs=some x):
  ∃(o:Option Addr) (cap:Nat) (l:List Sl),cs=[.slice o l.length cap]/\l.length<=maxLen/\RdS W.heap.size W o l:=by
 match cs,c with
 |[c0],_=>
  obtain⟨d,n,_,_,b⟩:=trod_struct1 Tryz.underlying56 h;simp[Q7k]at b;exact Q5T b
theorem Q6P (o:Option Addr) (len c:Nat) (n:Int) (w:World) (f:len<=maxLen) (b:0<=n) (d:n<=1048576):
  Calls Tryz.prog 99 #[tab (.slice o len c),.int .i64 n] w fun e g=>e=.returned (.int .i64 (if n - len < 0 then -1 else n - len))/\Below w.heap.size w g:=by
 have a:Below w.heap.size w w:=KBq
 have hs:=fun W=>Qbg o len c n W f b d
 by_cases h:n - len < 0
 ·rw[if_pos h]at hs
  rw[if_pos h];go_enter Tryz.func99,Tryz.ntmps99;go_wp2_with (go_at_call 152;refine(hs _).mono ?_;rintro e i ⟨rfl,rfl⟩);go_ret;exact⟨rfl,by(repeat (first|with_reducible (first|exact a|exact KBq|refine KHq ?_|refine below_drewN ?_ _|refine KOq ?_ ?_ _|refine KNq ?_ ?_ _)|(focus (simp;first|done|omega))|omega))⟩
 ·rw[if_neg h]at hs
  rw[if_neg h]
  have j:0<=n - (len:Int):=by omega
  go_enter Tryz.func99,Tryz.ntmps99;go_wp2_with (go_at_call 152;refine(hs _).mono ?_;rintro e i ⟨rfl,rfl⟩);go_ret;exact⟨rfl,by(repeat (first|with_reducible (first|exact a|exact KBq|refine KHq ?_|refine below_drewN ?_ _|refine KOq ?_ ?_ _|refine KNq ?_ ?_ _)|(focus (simp;first|done|omega))|omega))⟩
theorem Q5s (v:Value) (m:List Sl) (w:World) (r:RdT w.heap.size w v m) (s:m.length<=1048576):
  Calls Tryz.prog 104 #[v] w fun e p=> ∃q,e=.returned q/\InTb w.heap.size p.heap.size p q m/\Below w.heap.size w p:=by
 obtain⟨x,rfl,o,c,rfl,u⟩:=r;have h:Below w.heap.size w w:=KBq;go_enter Tryz.func104,Tryz.ntmps104
 go_wp2_with (first|(go_at_call 157;refine(QaY o c m _ ((u.kept (D:=w.heap.size) (by(repeat (first|with_reducible (first|exact h|exact KBq|refine KHq ?_|refine below_drewN ?_ _|refine KOq ?_ ?_ _|refine KNq ?_ ?_ _)|(focus (simp;first|done|omega))|omega))) (Kaq _)).le (by(try simp) <;> omega)) s).mono ?_;rintro e b ⟨g,rfl,d,a⟩;obtain⟨n,t⟩:=Q0F a;have j:w.heap.size < b.heap.size:=(by have i:=a.size;(try simp at i);omega);have k:w.heap.size+1 < b.heap.size:=(by have i:=a.size;(try simp at i);omega);have l:w.heap.size+1+1 < b.heap.size:=(by have i:=a.size;(try simp at i);omega);have h:Below w.heap.size w b:=(by refine Below.trans ?_ (a.mono (by have hs:=h.size;(try simp) <;> omega));(repeat (first|with_reducible (first|exact h|exact KBq|refine KHq ?_|refine below_drewN ?_ _|refine KOq ?_ ?_ _|refine KNq ?_ ?_ _)|(focus (simp;first|done|omega))|omega)))))
 have f:Qj2 b (w.heap.size+1+1+1) (.slice (some ⟨g,0,none⟩) m.length m.length) m:=by simpa using d
 clear d a;refine bodyPost_ret (v:=tab (.slice (some ⟨g,0,none⟩) m.length m.length)) (by simp[results,Tryz.results104,go_sem,n,j,k,l]) rfl ⟨_,rfl,⟨_,rfl,InRow.of ?_⟩, ?_⟩
 ·refine Q06 (base:=w.heap.size+1+1+1) ?_ (by omega)
  repeat (refine ownsRow_setCell_below ?_ (by simp <;> omega) _)
  exact f
 ·(repeat (first|with_reducible (first|exact h|exact KBq|refine KHq ?_|refine below_drewN ?_ _|refine KOq ?_ ?_ _|refine KNq ?_ ?_ _)|(focus (simp;first|done|omega))|omega))
theorem Q5l (g h:Value) (m:List Sl) (w:World) (j:RdT w.heap.size w g m) (h2:RdT w.heap.size w h m) (k:m.length<=1048576):
  Calls Tryz.prog 81 #[g,h] w fun e t=>e=.returned (.bool true)/\Below w.heap.size w t:=by
 obtain⟨x,rfl,o,c,rfl,q⟩:=j;obtain⟨s,rfl,p,i,rfl,r⟩:=h2;have a:Below w.heap.size w w:=KBq;go_enter Tryz.func81,Tryz.ntmps81
 go_wp2_with (first|(go_at_call 140;refine(Qaz o p c i m _ ((q.kept (D:=w.heap.size) (by(repeat (first|with_reducible (first|exact a|exact KBq|refine KHq ?_|refine below_drewN ?_ _|refine KOq ?_ ?_ _|refine KNq ?_ ?_ _)|(focus (simp;first|done|omega))|omega))) (Kaq _)).le (by(try simp) <;> omega)) ((r.kept (D:=w.heap.size) (by(repeat (first|with_reducible (first|exact a|exact KBq|refine KHq ?_|refine below_drewN ?_ _|refine KOq ?_ ?_ _|refine KNq ?_ ?_ _)|(focus (simp;first|done|omega))|omega))) (Kaq _)).le (by(try simp) <;> omega)) k).mono ?_;rintro e f ⟨rfl,b⟩;obtain⟨u,v⟩:=Q0F b;have l:w.heap.size < f.heap.size:=(by have d:=b.size;(try simp at d);omega);have n:w.heap.size+1 < f.heap.size:=(by have d:=b.size;(try simp at d);omega);have a:Below w.heap.size w f:=(by refine Below.trans ?_ (b.mono (by have hs:=a.size;(try simp) <;> omega));(repeat (first|with_reducible (first|exact a|exact KBq|refine KHq ?_|refine below_drewN ?_ _|refine KOq ?_ ?_ _|refine KNq ?_ ?_ _)|(focus (simp;first|done|omega))|omega)))))
 go_ret;exact⟨rfl,by(repeat (first|with_reducible (first|exact a|exact KBq|refine KHq ?_|refine below_drewN ?_ _|refine KOq ?_ ?_ _|refine KNq ?_ ?_ _)|(focus (simp;first|done|omega))|omega))⟩
def QiI (k:Int) (m:List Sl):List Sl:=mkL QdS 5 k m.length
theorem Q9w (lo hi:Nat) (v:Value) (m:List Sl) (k:Int) (w:World) (hv:InTb lo hi w v m) (l:0<=k) (p:k<=100000000) (n:m.length<=1048576):
  Calls Tryz.prog 87 #[v,.int .i64 k] w fun e i=>e=.returned (.int .i64 (k+5 * m.length))/\InTb lo hi i v (QiI k m)/\Stp lo hi w i:=by
 obtain⟨q,rfl,iv⟩:=hv;obtain⟨g,c,h,_⟩:=InL.rd (L:=Q0u) iv;subst h;have s1:Hid (Stp lo hi w (w.alloc (.cells #[.slice g m.length c] 32))):=Stp.of (KBq.alloc (Kaq _) _);have f:Hid (InS lo hi (w.alloc (.cells #[.slice g m.length c] 32)) (.slice g m.length c) m):=⟨World.ownsRow.alloc iv.1 _,iv.2⟩;clear iv;go_enter Tryz.func87,Tryz.ntmps87;go_wp2_with fail;generalize w.alloc (.cells #[.slice g m.length c] 32)=w1 at *;refine(Q38 lo _ m k w1 f.out.1 l (by omega) n).mono ?_;rintro e j ⟨rfl,a,d⟩
 have H:Hid (InTb lo hi j (tab (.slice g m.length c)) (QiI k m)/\Stp lo hi w j):=⟨⟨_,rfl,a,f.out.2⟩,s1.out.trans (Stp.grown d (fun b e=>⟨(f.out.1.lt b e).1,f.out.2 b e⟩))⟩;clear a d s1 f;go_wp2;go_ret;exact⟨rfl,H.out.1,H.out.2⟩
theorem Q07 (W:World) (B j:Nat) (v:Value):Stp B (B+1) W (W.setCell ⟨B,j,none⟩ v):=by
 have h:=(Below.refl B W).setCell (p:=⟨B,j,none⟩) (Kaq _) v;exact⟨h.os,h.tape,h.output,h.size,fun k a b=>Below.heap_setCell W ⟨B,j,none⟩ v k (by simp;omega)⟩
theorem Q4D (W:World) (B:Nat) (a b c d e:Value):Stp B (B+1) W (((((W.setCell ⟨B,0,none⟩ a).setCell ⟨B,1,none⟩ b).setCell ⟨B,2,none⟩ c).setCell ⟨B,3,none⟩ d).setCell ⟨B,4,none⟩ e):=
 ((((Q07 W B 0 a).trans (Q07 _ B 1 b)).trans (Q07 _ B 2 c)).trans (Q07 _ B 3 d)).trans (Q07 _ B 4 e)
theorem Q4d {w W:World} {C B:Nat} (h:Below C w W) (f:C<=B) (a b c d e:Value):Below C w (((((W.setCell ⟨B,0,none⟩ a).setCell ⟨B,1,none⟩ b).setCell ⟨B,2,none⟩ c).setCell ⟨B,3,none⟩ d).setCell ⟨B,4,none⟩ e):=
 ((((h.setCell (p:=⟨B,0,none⟩) f a).setCell (p:=⟨B,1,none⟩) f b).setCell (p:=⟨B,2,none⟩) f c).setCell (p:=⟨B,3,none⟩) f d).setCell (p:=⟨B,4,none⟩) f e
theorem Q88 (W:World) (B:Nat) (a b c d e:Value):(((((W.setCell ⟨B,0,none⟩ a).setCell ⟨B,1,none⟩ b).setCell ⟨B,2,none⟩ c).setCell ⟨B,3,none⟩ d).setCell ⟨B,4,none⟩ e).heap.size=W.heap.size:=by simp
structure Am where
 id:Int
 lim:Int
 dr:Bool
 c:List Sl
 t:List Sl
abbrev agt (i l:Int) (d:Bool) (vc vt:Value):Value:=.agg #[.int .i64 i,.int .i64 l,.bool d,vc,vt]
def RdA (C:Nat) (w:World) (v:Value) (m:Am):Prop:=∃vc vt,v=agt m.id m.lim m.dr vc vt/\RdV Q0u C w vc m.c/\RdV Q0u C w vt m.t
def InA (lo hi:Nat) (w:World) (v:Value) (m:Am):Prop:=∃vc vt mid,v=agt m.id m.lim m.dr vc vt/\InS lo mid w vc m.c/\InS mid hi w vt m.t/\lo<=mid/\mid<=hi
theorem Q7S:Tryz.prog.cellsOf 3=1:=by kernel_rfl
theorem Qc3:Tryz.prog.cellsOf 4=1:=by kernel_rfl
structure Gt where
 a:Int
 p:Int
 bk:Int
 sq:Int
abbrev gt0:Gt:=⟨0,0,0,0⟩
def Q0R:Lay Gt:=⟨4,fun s=> [.int .i64 s.a,.int .i64 s.p,.int .i64 s.bk,.int .i64 s.sq],gt0,fun _=>rfl⟩
abbrev gtv (s:Gt):Value:=.agg #[.int .i64 s.a,.int .i64 s.p,.int .i64 s.bk,.int .i64 s.sq]
theorem RdL.gt {C:Nat} {w:World} {b c:Nat} {l:List Gt} (h:∀i,i < l.length->∀j,j < Q0R.k->w.cell? ⟨b,c+i * Q0R.k+j,none⟩=(Q0R.cs (l.getD i Q0R.d))[j]?) (i:Nat) (hi:i < l.length):
  w.cell? ⟨b,c+i * 4,none⟩=some (.int .i64 (l.getD i gt0).a)/\w.cell? ⟨b,c+i * 4+1,none⟩=some (.int .i64 (l.getD i gt0).p)/\w.cell? ⟨b,c+i * 4+2,none⟩=some (.int .i64 (l.getD i gt0).bk)/\w.cell? ⟨b,c+i * 4+3,none⟩=some (.int .i64 (l.getD i gt0).sq):=
 ⟨h i hi 0 (by decide),h i hi 1 (by decide),h i hi 2 (by decide),h i hi 3 (by decide)⟩
theorem Q6Y {α:Type} (L:Lay α) (b:L.k=4) {f g h j:Value} {a:α} (d:L.cs a=[f,g,h,j]):∀(l:List α) (i:Nat),(((((l.flatMap L.cs).set (i * 4) f).set (i * 4+1) g).set (i * 4+2) h).set (i * 4+3) j)=(l.set i a).flatMap L.cs
 |[],i=>by simp
 |q::l,0=>by
  have c:=(L.len q).trans b
  match hc:L.cs q,c with
  |[q0,q1,q2,q3],_=>simp[d,hc]
 |q::l,i+1=>by
  have c:=(L.len q).trans b
  match hc:L.cs q,c with
  |[q0,q1,q2,q3],_=>
   rw[show(i+1) * 4=i * 4+1+1+1+1 by omega];simp only[List.flatMap_cons,hc,List.cons_append,List.nil_append,List.set_cons_succ];rw[Q6Y L b d l i]
theorem Qh0:(Tryz.prog.info? 143).map (fun i=>(i.zero,i.size,i.bytes))=some (some (.agg #[.int .i64 0,.int .i64 0,.int .i64 0,.int .i64 0]),4,32):=by kernel_rfl
theorem Qav:Tryz.prog.cellsOf 3=1:=by kernel_rfl
theorem Qaj:Tryz.prog.cellsOf 187=4:=by kernel_rfl
theorem Q6c {H:Type} {enc:TypeId × Value->H} {W:World} {b:Nat} {cs:List Value} {x:DataW H × List MemPlace} (h:DataW.trod enc Tryz.prog W 0 (fun _=>true) true b 61 cs=some x):
  ∃(o:Option Addr) (cap:Nat) (l:List Gt),cs=[.slice o l.length cap]/\l.length<=maxLen/\RdL Q0R W.heap.size W o l:=by
 refine Q3w Q0R (by decide) Tryz.underlying61 Qaj ?_ h;intro n cs y r s
 match cs,r with
 |[c0,c1,c2,c3],_=>
  obtain⟨w,z,A,m,_,_,i,j,h2⟩:=Go.Deep.trod_struct3 Tryz.underlying187 s;simp[Qav,Q1L]at i j h2;obtain⟨B,C,u,_,_,k,q⟩:=trod_struct2 Tryz.underlying71 i;simp[Qav]at k q;obtain⟨a,c,_,_⟩:=DataW.trod_int Tryz.underlying3 k;obtain⟨p,d,_,_⟩:=DataW.trod_int Tryz.underlying3 q;obtain⟨v,f,_,_⟩:=DataW.trod_int Tryz.underlying3 j;obtain⟨t,g,_,_⟩:=DataW.trod_int Tryz.underlying3 h2;simp at c d f g;subst c d f g;exact⟨⟨a,p,v,t⟩,rfl⟩
theorem Qeq (s:Gt) (w:World):
  Calls Tryz.prog 107 #[gtv s] w fun e k=>e=.returned (gtv s)/\Below w.heap.size w k:=by
 have g:Below w.heap.size w w:=KBq;go_enter Tryz.func107,Tryz.ntmps107
 go_wp2_with (first|(go_at_call 25;refine(Q1T s.a s.p _).mono ?_;rintro e c ⟨rfl,b⟩;obtain⟨h,j⟩:=Q0F b;have d:w.heap.size < c.heap.size:=(by have i:=b.size;(try simp at i);omega);have f:w.heap.size+1 < c.heap.size:=(by have i:=b.size;(try simp at i);omega);have g:Below w.heap.size w c:=(by refine Below.trans ?_ (b.mono (by have hs:=g.size;(try simp) <;> omega));(repeat (first|with_reducible (first|exact g|exact KBq|refine KHq ?_|refine below_drewN ?_ _|refine KOq ?_ ?_ _|refine KNq ?_ ?_ _)|(focus (simp;first|done|omega))|omega)))))
 refine bodyPost_ret (v:=gtv s) (by simp[results,Tryz.results107,go_sem,h,d,f]) rfl ⟨rfl, ?_⟩
 (repeat (first|with_reducible (first|exact g|exact KBq|refine KHq ?_|refine below_drewN ?_ _|refine KOq ?_ ?_ _|refine KNq ?_ ?_ _)|(focus (simp;first|done|omega))|omega))
theorem QcO (s:Gt) (w:World):
  Calls Tryz.prog 84 #[gtv s,gtv s] w fun e k=>e=.returned (.bool true)/\Below w.heap.size w k:=by
 have d:Below w.heap.size w w:=KBq;go_enter Tryz.func84,Tryz.ntmps84
 go_wp2_with (first|(go_at_call 142;refine(Q33 s.a s.p _).mono ?_;rintro e c ⟨rfl,b⟩;obtain⟨i,j⟩:=Q0F b;have g:w.heap.size < c.heap.size:=(by have f:=b.size;(try simp at f);omega);have h:w.heap.size+1 < c.heap.size:=(by have f:=b.size;(try simp at f);omega);have d:Below w.heap.size w c:=(by refine Below.trans ?_ (b.mono (by have hs:=d.size;(try simp) <;> omega));(repeat (first|with_reducible (first|exact d|exact KBq|refine KHq ?_|refine below_drewN ?_ _|refine KOq ?_ ?_ _|refine KNq ?_ ?_ _)|(focus (simp;first|done|omega))|omega)))))
 all_goals go_ret
 all_goals exact⟨rfl,by(repeat (first|with_reducible (first|exact d|exact KBq|refine KHq ?_|refine below_drewN ?_ _|refine KOq ?_ ?_ _|refine KNq ?_ ?_ _)|(focus (simp;first|done|omega))|omega))⟩
theorem Qde (o:Option Addr) (len cap:Nat) (n:Int) (w:World) (a:len<=maxLen) (c:0<=n) (d:n<=1048576):
  Calls Tryz.prog 49 #[.slice o len cap,.int .i64 n] w fun e b=>e=.returned (.int .i64 (if n - len < 0 then -1 else n - len))/\w=b:=by
 unfold maxLen at a
 by_cases h:n - len < 0
 ·rw[if_pos h]
  go_enter Tryz.func49,Tryz.ntmps49;go_wp2;go_ret;exact⟨rfl,rfl⟩
 ·rw[if_neg h]
  go_enter Tryz.func49,Tryz.ntmps49;go_wp2;go_ret;exact⟨rfl,rfl⟩
theorem QhG {e:TypeId} {w wr:World} {base B g c n:Nat} {l:List Gt} {k:Nat} (s:Gt) (d:B<=g) (b:wr.ownsRow base e 4 (.slice (some ⟨g,0,none⟩) n c) n (l.flatMap Q0R.cs)) (f:Below B w wr):
  ((((wr.setCell ⟨g,k * 4,none⟩ (.int .i64 s.a)).setCell ⟨g,k * 4+1,none⟩ (.int .i64 s.p)).setCell ⟨g,k * 4+2,none⟩ (.int .i64 s.bk)).setCell ⟨g,k * 4+3,none⟩ (.int .i64 s.sq)).ownsRow base e 4 (.slice (some ⟨g,0,none⟩) n c) n ((l.set k s).flatMap Q0R.cs)/\Below B w ((((wr.setCell ⟨g,k * 4,none⟩ (.int .i64 s.a)).setCell ⟨g,k * 4+1,none⟩ (.int .i64 s.p)).setCell ⟨g,k * 4+2,none⟩ (.int .i64 s.bk)).setCell ⟨g,k * 4+3,none⟩ (.int .i64 s.sq)):=by
 have h:=((((b.stored (k * 4) (.int .i64 s.a)).1.stored (k * 4+1) (.int .i64 s.p)).1.stored (k * 4+2) (.int .i64 s.bk)).1.stored (k * 4+3) (.int .i64 s.sq)).1;rw[Q6Y Q0R rfl (a:=s) rfl]at h;exact⟨h,((((f.setCell (p:=⟨g,k * 4,none⟩) d _).setCell (p:=⟨g,k * 4+1,none⟩) d _).setCell (p:=⟨g,k * 4+2,none⟩) d _).setCell (p:=⟨g,k * 4+3,none⟩) d _)⟩
theorem Qdb (o:Option Addr) (cap:Nat) (l:List Gt) (w:World) (y:RdL Q0R w.heap.size w o l) (L:l.length<=1048576):
  Calls Tryz.prog 54 #[.slice o l.length cap] w fun e M=> ∃g,e=.returned (.slice (some ⟨g,0,none⟩) l.length l.length)/\ownL Q0R 143 M w.heap.size (.slice (some ⟨g,0,none⟩) l.length l.length) l/\Below w.heap.size w M:=by
 obtain⟨i0,hi,F,G,H⟩:=info_parts Qh0;have J:Below w.heap.size w w:=KBq;go_enter Tryz.func54,Tryz.ntmps54;go_wp2_with (at_make;refine wpList_make_full _ rfl _ _ 37 rfl w.heap.size 143 i0 (gtv gt0) 4 Tryz.underlying37 hi F G _ _ _ _ l.length rfl rfl rfl rfl ?b2 ?b3 ?b4 ?_)
 case b2=>rw[H];omega
 case b3=>unfold maxLen;omega
 case b4=>simp
 intro N c m;have t:Below w.heap.size w N:=J.grown m (Kaq _) (fun k h=>by cases h)
 have n:N.ownsRow w.heap.size 143 4 (.slice (some ⟨w.heap.size,0,none⟩) l.length l.length) l.length ((Q17 Q0R l 0).flatMap Q0R.cs):=by
  rw[Q2f,<-Q11 Q0R (gtv gt0) rfl];exact c
 clear c m J;go_wp2
 go_loopw [4] (fun i wr=> ∃k:Nat,k<=l.length/\i=.int .i64 k/\wr.ownsRow w.heap.size 143 4 (.slice (some ⟨w.heap.size,0,none⟩) l.length l.length) l.length ((Q17 Q0R l k).flatMap Q0R.cs)/\Below w.heap.size w wr)
  (fun i _=>l.length - (intOf i).toNat)
 case atStart=>exact⟨0,Kcq _,rfl,n,t⟩
 case round=>
  obtain⟨k,V,rfl,c,d⟩:=hrel
  by_cases hlt:k < l.length
  ·rcases y with y|⟨b,ab,rfl,p,j⟩
   ·subst y;simp at hlt
   obtain⟨s,r⟩:∃s,l.getD k gt0=s:=⟨_,rfl⟩;have f:=RdL.gt (C:=w.heap.size) j k hlt;rw[r]at f;have z:=bKq0v0v0 d f.1 p;have A:=bKq0v0v0 d f.2.1 p;have B:=bKq0v0v0 d f.2.2.1 p;have D:=bKq0v0v0 d f.2.2.2 p;have HW:=Q00 (hlt);clear j f;go_wp2_with fail;refine(Qeq s _).mono ?_;rintro e v ⟨rfl,q⟩;have x:Below w.heap.size w v:=d.trans (q.mono d.size);have a:=Q0a c q
   have E:((Q17 Q0R l k).flatMap Q0R.cs).length=l.length * 4:=by rw[Q0f,Q1C Q0R l k V];rfl
   obtain⟨u0,X⟩:∃u,v.cell? ⟨w.heap.size,k * 4,none⟩=some u:=⟨_,(a.cellAt (k * 4) (by omega)).trans (KGq (by omega))⟩;have P:=a.frozenAt (k * 4);obtain⟨u1,Y⟩:∃u,v.cell? ⟨w.heap.size,k * 4+1,none⟩=some u:=⟨_,(a.cellAt (k * 4+1) (by omega)).trans (KGq (by omega))⟩;have R:=a.frozenAt (k * 4+1);obtain⟨u2,Z⟩:∃u,v.cell? ⟨w.heap.size,k * 4+2,none⟩=some u:=⟨_,(a.cellAt (k * 4+2) (by omega)).trans (KGq (by omega))⟩;have T:=a.frozenAt (k * 4+2)
   obtain⟨u3,aa⟩:∃u,v.cell? ⟨w.heap.size,k * 4+3,none⟩=some u:=⟨_,(a.cellAt (k * 4+3) (by omega)).trans (KGq (by omega))⟩;have U:=a.frozenAt (k * 4+3);have I:=Q00 (QhG (k:=k) s (Kaq _) a x);have O:=Q00 (show(Q17 Q0R l k).set k s=Q17 Q0R l (k+1)by rw[<-r];exact Q2I Q0R l k hlt);clear r c d t n a z A B D q E;go_wp2;go_roundw
   case rel=>exact⟨k+1,by omega,by go_num,(by have:=I.out.1;rw[O.out]at this;exact this),I.out.2⟩
   case measure=>simp[intOf];omega
  ·have e:k=l.length:=by omega
   subst e;rw[Q2R]at c;go_wp2;go_ret;exact⟨w.heap.size,rfl,c,d⟩
theorem QbK (I J:Option Addr) (L M:Nat) (l:List Gt) (w:World) (x:RdL Q0R w.heap.size w I l) (h2:RdL Q0R w.heap.size w J l) (P:l.length<=1048576):
  Calls Tryz.prog 37 #[.slice I l.length L,.slice J l.length M] w fun e w'=>e=.returned (.bool true)/\Below w.heap.size w w':=by
 go_enter Tryz.func37,Tryz.ntmps37;go_wp2
 go_loopw [5] (fun i wr=> ∃k:Nat,k<=l.length/\i=.int .i64 k/\Below w.heap.size w wr)
  (fun i _=>l.length - (intOf i).toNat)
 case atStart=>exact⟨0,Kcq _,rfl,KBq⟩
 case round=>
  obtain⟨k,O,rfl,f⟩:=hrel
  by_cases hlt:k < l.length
  ·rcases x with x|⟨t,c,rfl,j,q⟩
   ·subst x;simp at hlt
   rcases h2 with h2|⟨u,d,rfl,m,r⟩
   ·subst h2;simp at hlt
   obtain⟨s,v⟩:∃s,l.getD k gt0=s:=⟨_,rfl⟩;have g:=RdL.gt (C:=w.heap.size) q k hlt;have h:=RdL.gt (C:=w.heap.size) r k hlt;rw[v]at g h;have y:=bKq0v0v0 f g.1 j;have z:=bKq0v0v0 f g.2.1 j;have A:=bKq0v0v0 f g.2.2.1 j;have B:=bKq0v0v0 f g.2.2.2 j;have D:=bKq0v0v0 f h.1 m;have E:=bKq0v0v0 f h.2.1 m;have F:=bKq0v0v0 f h.2.2.1 m;have G:=bKq0v0v0 f h.2.2.2 m;have H:=Q00 f;have n:=Q00 f.size;clear q r f g h v
   have R:(k:Int) < (l.length:Int):=by omega
   go_wp2
   go_region_held3 (fun w'=>w'.cell? ⟨t,c+k * 4,none⟩=some (.int .i64 s.a)/\w'.cell? ⟨t,c+k * 4+1,none⟩=some (.int .i64 s.p)/\w'.cell? ⟨t,c+k * 4+2,none⟩=some (.int .i64 s.bk)/\w'.cell? ⟨t,c+k * 4+3,none⟩=some (.int .i64 s.sq)/\w'.cell? ⟨u,d+k * 4,none⟩=some (.int .i64 s.a)/\w'.cell? ⟨u,d+k * 4+1,none⟩=some (.int .i64 s.p)/\w'.cell? ⟨u,d+k * 4+2,none⟩=some (.int .i64 s.bk)/\w'.cell? ⟨u,d+k * 4+3,none⟩=some (.int .i64 s.sq)) (first|exact⟨y,z,A,B,D,E,F,G⟩) (first|(go_at_call 84;refine(QcO s _).mono ?_;rintro e N ⟨rfl,b⟩;replace b:Below wr.heap.size wr N:=(KHq KBq).trans b;have y:=(b.cell (p:=⟨t,c+k * 4,none⟩) (Kbq j n.out)).trans y;have z:=(b.cell (p:=⟨t,c+k * 4+1,none⟩) (Kbq j n.out)).trans z;have A:=(b.cell (p:=⟨t,c+k * 4+2,none⟩) (Kbq j n.out)).trans A;have B:=(b.cell (p:=⟨t,c+k * 4+3,none⟩) (Kbq j n.out)).trans B;have D:=(b.cell (p:=⟨u,d+k * 4,none⟩) (Kbq m n.out)).trans D;have E:=(b.cell (p:=⟨u,d+k * 4+1,none⟩) (Kbq m n.out)).trans E;have F:=(b.cell (p:=⟨u,d+k * 4+2,none⟩) (Kbq m n.out)).trans F;have G:=(b.cell (p:=⟨u,d+k * 4+3,none⟩) (Kbq m n.out)).trans G))
   go_wp2;go_roundw
   case rel=>exact⟨k+1,by omega,by go_num,H.out.trans (b.mono H.out.size)⟩
   case measure=>simp[intOf];omega
  ·have e:k=l.length:=by omega
   subst e;go_wp2;go_ret;exact⟨rfl,f⟩
def QdQ (k:Int):Gt:=⟨k,k+1,k+1+1,k+1+1+1⟩
theorem Qat (base:Nat) (v:Value) (l:List Gt) (k:Int) (w:World) (hv:ownL Q0R 143 w base v l) (I:0<=k) (J:k<=1073741824) (p:l.length<=1048576):
  Calls Tryz.prog 41 #[v,.int .i64 k] w fun e r=>e=.returned (.int .i64 (k+4 * l.length))/\ownL Q0R 143 r base v (mkL QdQ 4 k l.length)/\w.grownBy r v.ownBlock:=by
 rcases hv.2 with⟨rfl,h2⟩|⟨g,cap,x,rfl,L,_⟩
 ·have e:l=[]:=List.eq_nil_of_length_eq_zero h2
  subst e;go_enter Tryz.func41,Tryz.ntmps41;go_wp2;refine wp_loop_rounds 1 ?_;rw[rounds_succ];go_wp2;go_ret;exact⟨by simp,by simpa[mkL]using hv,World.grownBy.refl _ _⟩
 ·have f:w.ownsRow base 143 4 (.slice (some ⟨g,0,none⟩) l.length cap) l.length ((Q3K QdQ 4 l k 0).flatMap Q0R.cs):=by rw[Q3B];exact hv
  go_enter Tryz.func41,Tryz.ntmps41;go_wp2
  go_loopw [1,5] (fun q j wr=> ∃i:Nat,i<=l.length/\j=.int .i64 i/\q=.int .i64 (k+4 * (i:Int))/\wr.ownsRow base 143 4 (.slice (some ⟨g,0,none⟩) l.length cap) l.length ((Q3K QdQ 4 l k i).flatMap Q0R.cs)/\w.grownBy wr (some g))
   (fun _ j _=>l.length - (intOf j).toNat)
  case atStart=>exact⟨0,Kcq _,rfl,by simp,f,World.grownBy.refl _ _⟩
  case round=>
   obtain⟨i,hi,rfl,rfl,b,d⟩:=hrel
   by_cases hlt:i < l.length
   ·have m:((Q3K QdQ 4 l k i).flatMap Q0R.cs).length=l.length * 4:=by rw[Q0f,Q2q _ _ _ _ _ hi];rfl
    have E:=Q6Y Q0R rfl (a:=QdQ (k+4 * (i:Int))) rfl (Q3K QdQ 4 l k i) i;have n:=Q4F QdQ 4 l k i hlt;have c:=E.trans (congrArg (fun z=>List.flatMap Q0R.cs z) n);simp only[QdQ]at c;clear E n;generalize hxs:(Q3K QdQ 4 l k i).flatMap Q0R.cs=xs at *;have s1:=Q0y (j:=i * 4) (u:=.int .i64 (k+4 * (i:Int))) b d;have s2:=Q0y (j:=i * 4+1) (u:=.int .i64 (k+4 * (i:Int)+1)) s1.1 s1.2;have s3:=Q0y (j:=i * 4+2) (u:=.int .i64 (k+4 * (i:Int)+1+1)) s2.1 s2.2;have s4:=Q0y (j:=i * 4+3) (u:=.int .i64 (k+4 * (i:Int)+1+1+1)) s3.1 s3.2;have D:=b.frozenAt (i * 4)
    obtain⟨M,y⟩:∃z,wr.cell? ⟨g,i * 4,none⟩=some z:=⟨_,(b.cellAt (i * 4) (by omega)).trans (KGq (by(try simp) <;> omega))⟩;have F:=s1.1.frozenAt (i * 4+1);obtain⟨N,A⟩:∃z,(wr.setCell ⟨g,i * 4,none⟩ (.int .i64 (k+4 * (i:Int)))).cell? ⟨g,i * 4+1,none⟩=some z:=⟨_,(s1.1.cellAt (i * 4+1) (by omega)).trans (KGq (by(try simp) <;> omega))⟩;have G:=s2.1.frozenAt (i * 4+2)
    obtain⟨O,B⟩:∃z,((wr.setCell ⟨g,i * 4,none⟩ (.int .i64 (k+4 * (i:Int)))).setCell ⟨g,i * 4+1,none⟩ (.int .i64 (k+4 * (i:Int)+1))).cell? ⟨g,i * 4+2,none⟩=some z:=⟨_,(s2.1.cellAt (i * 4+2) (by omega)).trans (KGq (by(try simp) <;> omega))⟩;have H:=s3.1.frozenAt (i * 4+3)
    obtain⟨P,C⟩:∃z,(((wr.setCell ⟨g,i * 4,none⟩ (.int .i64 (k+4 * (i:Int)))).setCell ⟨g,i * 4+1,none⟩ (.int .i64 (k+4 * (i:Int)+1))).setCell ⟨g,i * 4+2,none⟩ (.int .i64 (k+4 * (i:Int)+1+1))).cell? ⟨g,i * 4+3,none⟩=some z:=⟨_,(s3.1.cellAt (i * 4+3) (by omega)).trans (KGq (by(try simp) <;> omega))⟩;have S:=Q00 s4;have s:=Q00 c
    have R:(i:Int) < (l.length:Int):=by omega
    clear s1 s2 s3 s4 b d hv f c m;go_wp2;go_roundw
    case rel=>
     refine⟨i+1,by omega,by go_num,by go_num, ?_,S.out.2⟩;have h:=S.out.1;rw[<-s.out];exact h
    case measure=>simp[intOf];omega
   ·have e:i=l.length:=by omega
    subst e;rw[Q4s]at b;have t:=Q00 b;clear b;go_wp2;go_ret;exact⟨rfl,(by have:=t.out;unfold ownL;rw[Q1z];exact this),d⟩
def QfV (k:Int):Bk:=(k,k+1,(k+1+1) % 3==0)
theorem Q7h (base:Nat) (v:Value) (l:List _) (k:Int) (w:World) (hv:ownL Q0L 259 w base v l) (F:0<=k) (G:k<=1073741824) (n:l.length<=1048576):
  Calls Tryz.prog 144 #[v,.int .i64 k] w fun e p=>e=.returned (.int .i64 (k+3 * l.length))/\ownL Q0L 259 p base v (mkL QfV 3 k l.length)/\w.grownBy p v.ownBlock:=by
 rcases hv.2 with⟨rfl,h2⟩|⟨g,cap,t,rfl,H,_⟩
 ·have e:l=[]:=List.eq_nil_of_length_eq_zero h2
  subst e;go_enter Tryz.func144,Tryz.ntmps144;go_wp2;refine wp_loop_rounds 1 ?_;rw[rounds_succ];go_wp2;go_ret;exact⟨by simp,by simpa[mkL]using hv,World.grownBy.refl _ _⟩
 ·have d:w.ownsRow base 259 3 (.slice (some ⟨g,0,none⟩) l.length cap) l.length ((Q3K QfV 3 l k 0).flatMap Q0L.cs):=by rw[Q3B];exact hv
  go_enter Tryz.func144,Tryz.ntmps144;go_wp2
  go_loopw [1,5] (fun q j wr=> ∃i:Nat,i<=l.length/\j=.int .i64 i/\q=.int .i64 (k+3 * (i:Int))/\wr.ownsRow base 259 3 (.slice (some ⟨g,0,none⟩) l.length cap) l.length ((Q3K QfV 3 l k i).flatMap Q0L.cs)/\w.grownBy wr (some g))
   (fun _ j _=>l.length - (intOf j).toNat)
  case atStart=>exact⟨0,Kcq _,rfl,by simp,d,World.grownBy.refl _ _⟩
  case round=>
   obtain⟨i,hi,rfl,rfl,b,c⟩:=hrel
   by_cases hlt:i < l.length
   ·have f:((Q3K QfV 3 l k i).flatMap Q0L.cs).length=l.length * 3:=by rw[Q0f,Q2q _ _ _ _ _ hi];rfl
    have E:=Q2T Q0L rfl (a:=QfV (k+3 * (i:Int))) rfl (Q3K QfV 3 l k i) i;have m:=Q4F QfV 3 l k i hlt;generalize hxs:(Q3K QfV 3 l k i).flatMap Q0L.cs=xs at *;have s1:=Q0y (j:=i * 3) (u:=.int .i64 (k+3 * (i:Int))) b c;have s2:=Q0y (j:=i * 3+1) (u:=.int .i64 (k+3 * (i:Int)+1)) s1.1 s1.2;have s3:=Q0y (j:=i * 3+2) (u:=.bool ((k+3 * (i:Int)+1+1) % 3==0)) s2.1 s2.2;have B:=b.frozenAt (i * 3);obtain⟨I,x⟩:∃z,wr.cell? ⟨g,i * 3,none⟩=some z:=⟨_,(b.cellAt (i * 3) (by omega)).trans (KGq (by(try simp) <;> omega))⟩;have C:=s1.1.frozenAt (i * 3+1)
    obtain⟨J,y⟩:∃z,(wr.setCell ⟨g,i * 3,none⟩ (.int .i64 (k+3 * (i:Int)))).cell? ⟨g,i * 3+1,none⟩=some z:=⟨_,(s1.1.cellAt (i * 3+1) (by omega)).trans (KGq (by(try simp) <;> omega))⟩;have D:=s2.1.frozenAt (i * 3+2);obtain⟨L,A⟩:∃z,((wr.setCell ⟨g,i * 3,none⟩ (.int .i64 (k+3 * (i:Int)))).setCell ⟨g,i * 3+1,none⟩ (.int .i64 (k+3 * (i:Int)+1))).cell? ⟨g,i * 3+2,none⟩=some z:=⟨_,(s2.1.cellAt (i * 3+2) (by omega)).trans (KGq (by(try simp) <;> omega))⟩;have S:=Q00 s3;have r:=Q00 (E.trans (congrArg (fun z=>List.flatMap Q0L.cs z) m))
    have M:(i:Int) < (l.length:Int):=by omega
    clear s1 s2 s3 b c hv d E m f;go_wp2;go_roundw
    case rel=>
     refine⟨i+1,by omega,by go_num,by go_num, ?_,S.out.2⟩;have h:=S.out.1;rw[<-r.out];exact h
    case measure=>simp[intOf];omega
   ·have e:i=l.length:=by omega
    subst e;rw[Q4s]at b;have s:=Q00 b;clear b;go_wp2;go_ret;exact⟨rfl,(by have:=s.out;unfold ownL;rw[Q1z];exact this),c⟩
def Q0e (l:List Bk) (id:Int):Nat:=(l.takeWhile (fun b=>decide (b.1 < id))).length
theorem Q3t (l:List Bk) (id:Int):Q0e l id<=l.length:=by
 unfold Q0e;exact(List.takeWhile_sublist _).length_le
theorem Q73:∀(l:List Bk) (id:Int) (k:Nat),k < Q0e l id->(l.getD k (0,0,false)).1 < id
 |[],id,k,h=>by simp[Q0e]at h
 |b::l,id,k,h=>by
  unfold Q0e at h;rw[List.takeWhile_cons]at h
  by_cases hb:b.1 < id
  ·simp[hb]at h
   cases k with
   |zero=>simpa using hb
   |succ k=>simpa using Q73 l id k (by unfold Q0e;omega)
  ·simp[hb]at h
theorem Q6w:∀(l:List Bk) (id:Int),Q0e l id < l.length->¬(l.getD (Q0e l id) (0,0,false)).1 < id
 |[],id,h=>by simp at h
 |b::l,id,h=>by
  by_cases hb:b.1 < id
  ·have e:Q0e (b::l) id=Q0e l id+1:=by unfold Q0e;rw[List.takeWhile_cons];simp[hb]
   rw[e]at h ⊢
   simpa using Q6w l id (by simpa using h)
  ·have e:Q0e (b::l) id=0:=by unfold Q0e;rw[List.takeWhile_cons];simp[hb]
   rw[e]
   simpa using hb
theorem Q72 {l:List Bk} {id:Int} {k:Nat} (b:k<=l.length) (a:∀j,j < k->(l.getD j (0,0,false)).1 < id) (h2:k=l.length\/¬(l.getD k (0,0,false)).1 < id):Q0e l id=k:=by
 rcases Nat.lt_trichotomy (Q0e l id) k with h|h|h
 ·exact absurd (a _ h) (Q6w l id (by omega))
 ·exact h
 ·have:=Q73 l id k h
  have:=Q3t l id
  rcases h2 with h2|h2
  ·omega
  ·exact absurd ‹_› h2
def Q0m (l:List Bk) (id:Int):Bool:=decide (Q0e l id < l.length) && ((l.getD (Q0e l id) (0,0,false)).1==id)
def doL (l:List Bk) (k i g:Int):Option (List Bk):=
 if Q0m l i=(k==0)then none
 else some (
  if k=0 then l.take (Q0e l i)++(i,g,false)::l.drop (Q0e l i)
  else if k=1 then l.set (Q0e l i) (i,g,(l.getD (Q0e l i) (0,0,false)).2.2)
  else if k=2 then l.set (Q0e l i) (i,(l.getD (Q0e l i) (0,0,false)).2.1,true)
  else l.take (Q0e l i)++l.drop (Q0e l i+1))
theorem Q3b (o:Option Addr) (cap:Nat) (l:List Bk) (id:Int) (w:World) (t:RdK w.heap.size w o l) (G:l.length<=1048576):
  Calls Tryz.prog 246 #[.slice o l.length cap,.int .i64 id] w fun e D=>e=.returned (.tuple #[.int .i64 (Q0e l id),.bool (Q0m l id)])/\Below w.heap.size w D:=by
 go_enter Tryz.func246,Tryz.ntmps246;go_wp2
 go_loop [6] (fun av=> ∃k:Nat,k<=l.length/\av=.int .i64 k/\Hid (∀j,j < k->(l.getD j (0,0,false)).1 < id))
  (fun av=>l.length - (intOf av).toNat)
 case atStart=>exact⟨0,Kcq _,rfl,fun j v=>absurd v (KMq _)⟩
 case round=>
  obtain⟨k,F,rfl,m⟩:=hrel
  by_cases hlt:k < l.length
  ·rcases t with t|⟨b,B,rfl,u,a⟩
   ·subst t;simp at hlt
   obtain⟨x,y,z,c⟩:∃x y z,l.getD k (0,0,false)=(x,y,z):=⟨_,_,_,rfl⟩;have d:=(RdL.back (C:=w.heap.size) a k hlt).1;rw[c]at d;dsimp only at d
   have H:(k:Int) < (l.length:Int):=by omega
   by_cases hx:x < id
   ·have q:Hid (∀j,j < k+1->(l.getD j (0,0,false)).1 < id):=fun j v=>by
     rcases Nat.lt_succ_iff_lt_or_eq.1 v with h|h
     ·exact m.out j h
     ·rw[h,c];exact hx
    clear c a;go_wp2
    go_round
    case rel=>exact⟨k+1,by omega,by go_num,q⟩
    case measure=>simp[intOf];omega
   ·have f:Q0e l id=k:=Q72 (KIq hlt) m.out (.inr (by rw[c];exact hx))
    have s:=Q00 (show Q0m l id=(x==id)by unfold Q0m;rw[f,c];simp[hlt]);have r:=Q00 f;have E:=Grown.cell d u;clear c a f m;go_wp2
    (refine Q0b (by kernel_rfl) (by kernel_rfl) ?_;intro n;(repeat (go_big_quiet_step ((fail))));(with_reducible refine wpQuiet_nil ?_);intro _ i;obtain⟨A,g⟩:=i;subst g)
    have p:=Q00 A.b;go_wp2
    go_ret2
    exact⟨by rw[r.out,s.out];rfl,p.out⟩
  ·have e:k=l.length:=by omega
   have f:Q0e l id=l.length:=Q72 (Kaq _) (e ▸ m.out) (.inl rfl);have s:=Q00 (show Q0m l id=false by unfold Q0m;rw[f];simp);have r:=Q00 f;subst e;clear f m;go_wp2
   (refine Q0b (by kernel_rfl) (by kernel_rfl) ?_;intro n;(repeat (go_big_quiet_step ((fail))));(with_reducible refine wpQuiet_nil ?_);intro _ i;obtain⟨A,g⟩:=i;subst g)
   have p:=Q00 A.b;go_wp2
   go_ret2
   exact⟨by rw[r.out,s.out];rfl,p.out⟩
def QcH (k i g:Int):Prop:=0<=k/\k<=3/\0<=i/\i < 6/\((k<=1/\1<=g/\g<=100)\/(2<=k/\g=0))
def Q1y (k i g:Int):Bool:=decide (0<=k) && decide (k<=3) && decide (0<=i) && decide (i < 6) && ((decide (k<=1) && decide (1<=g) && decide (g<=100))||(decide (2<=k) && decide (g=0)))
theorem Q83 {k i g:Int}:Q1y k i g=true↔QcH k i g:=by simp[Q1y,QcH,and_assoc]
abbrev cmd (k i g:Int):Value:=.agg #[.int .i64 k,.int .i64 i,.int .i64 g]
theorem Q7I {k i g:Int} {t:Bool} (h:t=true↔QcH k i g):t=Q1y k i g:=by
 rw[Bool.eq_iff_iff,h,Q83]
theorem Q5g (k i g:Int) (w:World):
  Calls Tryz.prog 176 #[cmd k i g] w fun e b=>e=.returned (.bool (Q1y k i g))/\Below w.heap.size w b:=by
 have a:Below w.heap.size w w:=KBq;go_enter Tryz.func176,Tryz.ntmps176;go_wp2
 all_goals go_ret
 all_goals refine⟨Q03 (Q7I ?_),by(repeat (first|with_reducible (first|exact a|exact KBq|refine KHq ?_|refine below_drewN ?_ _|refine KOq ?_ ?_ _|refine KNq ?_ ?_ _)|(focus (simp;first|done|omega))|omega))⟩
 all_goals (simp[QcH];omega)
theorem Q56 (k i g:Int) (w:World):
  Calls Tryz.prog 245 #[cmd k i g] w fun e j=>e=.returned (.bool (Q1y k i g))/\Below w.heap.size w j:=by
 have h:Below w.heap.size w w:=KBq
 have a:=fun w=>Q1U i w
 have b:=fun w=>Q5G g w
 generalize hI:(decide (0<=i) && decide (i < 6))=I at a;generalize hG:(decide (1<=g) && decide (g<=100))=G at b;have d:=Q00 (show I=true↔0<=i/\i < 6 by rw[<-hI];simp);have c:=Q00 (show G=true↔1<=g/\g<=100 by rw[<-hG];simp);clear hI hG
 cases I <;> cases G
 all_goals (
  go_enter Tryz.func245,Tryz.ntmps245;go_wp2_with (first|(go_at_call 62;refine(a _).mono ?_;rintro e l ⟨rfl,rfl⟩)|(go_at_call 258;refine(b _).mono ?_;rintro e l ⟨rfl,rfl⟩))
  all_goals go_ret
  all_goals refine⟨Q03 (Q7I ?_),by(repeat (first|with_reducible (first|exact h|exact KBq|refine KHq ?_|refine below_drewN ?_ _|refine KOq ?_ ?_ _|refine KNq ?_ ?_ _)|(focus (simp;first|done|omega))|omega))⟩
  all_goals (have f:=d.out;have h2:=c.out;(try simp only[beq_iff_eq,beq_eq_false_iff_ne,ne_eq]at *);simp at f h2;simp[QcH];try omega))
theorem QaE:Tryz.prog.cellsOf 283=3:=by kernel_rfl
theorem Q98 (a b c:Int) (w:World):
  Calls Tryz.prog 196 #[cmd a b c] w fun e f=>e=.returned (cmd a b c)/\Below w.heap.size w f:=by
 have d:Below w.heap.size w w:=KBq;go_enter Tryz.func196,Tryz.ntmps196;go_wp2;refine bodyPost_ret (v:=.agg #[.int .i64 a,.int .i64 b,.int .i64 c]) (by simp[results,Tryz.results196,go_sem]) rfl ⟨rfl, ?_⟩
 (repeat (first|with_reducible (first|exact d|exact KBq|refine KHq ?_|refine below_drewN ?_ _|refine KOq ?_ ?_ _|refine KNq ?_ ?_ _)|(focus (simp;first|done|omega))|omega))
abbrev Cd:=Int × Int × Int
def Q24:Lay Cd:=⟨3,fun a=> [.int .i64 a.1,.int .i64 a.2.1,.int .i64 a.2.2],(0,0,0),fun _=>rfl⟩
abbrev RdC:=RdL Q24
abbrev QhX:=ownL Q24 256
theorem RdL.cmd {C:Nat} {w:World} {b a:Nat} {l:List Cd} (h:∀i,i < l.length->∀j,j < Q24.k->w.cell? ⟨b,a+i * Q24.k+j,none⟩=(Q24.cs (l.getD i Q24.d))[j]?) (i:Nat) (hi:i < l.length):
  w.cell? ⟨b,a+i * 3,none⟩=some (.int .i64 (l.getD i (0,0,0)).1)/\w.cell? ⟨b,a+i * 3+1,none⟩=some (.int .i64 (l.getD i (0,0,0)).2.1)/\w.cell? ⟨b,a+i * 3+2,none⟩=some (.int .i64 (l.getD i (0,0,0)).2.2):=
 ⟨h i hi 0 (by decide),h i hi 1 (by decide),h i hi 2 (by decide)⟩
theorem QeF:(Tryz.prog.info? 256).map (fun i=>(i.zero,i.size,i.bytes))=some (some (.agg #[.int .i64 0,.int .i64 0,.int .i64 0]),3,24):=by kernel_rfl
theorem QdM:Tryz.prog.cellsOf 3=1:=by kernel_rfl
theorem Q6s {H:Type} {enc:TypeId × Value->H} {W:World} {d:Nat} {cs:List Value} {x:DataW H × List MemPlace} (h:DataW.trod enc Tryz.prog W 0 (fun _=>true) true d 48 cs=some x):
  ∃(o:Option Addr) (cap:Nat) (l:List Cd),cs=[.slice o l.length cap]/\l.length<=maxLen/\RdC W.heap.size W o l:=by
 refine Q3w Q24 (by decide) Tryz.underlying48 QaE ?_ h;intro n cs y p q
 match cs,p with
 |[c0,c1,c2],_=>
  obtain⟨r,s,t,m,_,_,j,k,h2⟩:=Go.Deep.trod_struct3 Tryz.underlying283 q;simp[QdM]at j k h2;obtain⟨a,f,_,_⟩:=DataW.trod_int Tryz.underlying3 j;obtain⟨b,g,_,_⟩:=DataW.trod_int Tryz.underlying3 k;obtain⟨c,i,_,_⟩:=DataW.trod_int Tryz.underlying3 h2;simp at f g i;subst f g i;exact⟨(a,b,c),rfl⟩
theorem Q7u (i g d:Int) (w:World):
  Calls Tryz.prog 185 #[cmd i g d,cmd i g d] w fun e b=>e=.returned (.bool true)/\Below w.heap.size w b:=by
 have a:Below w.heap.size w w:=KBq;go_enter Tryz.func185,Tryz.ntmps185;go_wp2
 all_goals go_ret
 all_goals exact⟨rfl,by(repeat (first|with_reducible (first|exact a|exact KBq|refine KHq ?_|refine below_drewN ?_ _|refine KOq ?_ ?_ _|refine KNq ?_ ?_ _)|(focus (simp;first|done|omega))|omega))⟩
theorem Q7f (o:Option Addr) (len cap:Nat) (n:Int) (w:World) (a:len<=maxLen) (c:0<=n) (d:n<=1048576):
  Calls Tryz.prog 149 #[.slice o len cap,.int .i64 n] w fun e b=>e=.returned (.int .i64 (if n - len < 0 then -1 else n - len))/\w=b:=by
 unfold maxLen at a
 by_cases h:n - len < 0
 ·rw[if_pos h]
  go_enter Tryz.func149,Tryz.ntmps149;go_wp2;go_ret;exact⟨rfl,rfl⟩
 ·rw[if_neg h]
  go_enter Tryz.func149,Tryz.ntmps149;go_wp2;go_ret;exact⟨rfl,rfl⟩
theorem QcY {w wr:World} {base g c:Nat} {l:List Cd} {k:Nat} {x y z:Int} (i:l.getD k (0,0,0)=(x,y,z)) (m:k < l.length) (f:base<=g) (b:wr.ownsRow w.heap.size 256 3 (.slice (some ⟨g,0,none⟩) l.length c) l.length ((Q17 Q24 l k).flatMap Q24.cs))
  (j:Below base w wr):(((wr.setCell ⟨g,k * 3,none⟩ (.int .i64 x)).setCell ⟨g,k * 3+1,none⟩ (.int .i64 y)).setCell ⟨g,k * 3+2,none⟩ (.int .i64 z)).ownsRow w.heap.size 256 3 (.slice (some ⟨g,0,none⟩) l.length c) l.length ((Q17 Q24 l (k+1)).flatMap Q24.cs)/\
   Below base w (((wr.setCell ⟨g,k * 3,none⟩ (.int .i64 x)).setCell ⟨g,k * 3+1,none⟩ (.int .i64 y)).setCell ⟨g,k * 3+2,none⟩ (.int .i64 z)):=by
 have h:=(((b.stored (k * 3) (.int .i64 x)).1.stored (k * 3+1) (.int .i64 y)).1.stored (k * 3+2) (.int .i64 z)).1;rw[Q2T Q24 rfl (a:=(x,y,z)) rfl,<-i,show l.getD k (0,0,0)=l.getD k Q24.d from rfl,Q2I Q24 l k m]at h;exact⟨h,((j.setCell (p:=⟨g,k * 3,none⟩) f _).setCell (p:=⟨g,k * 3+1,none⟩) f _).setCell (p:=⟨g,k * 3+2,none⟩) f _⟩
theorem Q7s (o:Option Addr) (cap:Nat) (l:List Cd) (w:World) (E:RdC w.heap.size w o l) (P:l.length<=1048576):
  Calls Tryz.prog 154 #[.slice o l.length cap] w fun e R=> ∃g,e=.returned (.slice (some ⟨g,0,none⟩) l.length l.length)/\QhX R w.heap.size (.slice (some ⟨g,0,none⟩) l.length l.length) l/\Below w.heap.size w R:=by
 obtain⟨i0,hi,J,L,M⟩:=info_parts QeF;have O:Below w.heap.size w w:=KBq;go_enter Tryz.func154,Tryz.ntmps154;go_wp2_with (at_make;refine wpList_make_full _ rfl _ _ 23 rfl w.heap.size 256 i0 (.agg #[.int .i64 0,.int .i64 0,.int .i64 0]) 3 Tryz.underlying23 hi J L _ _ _ _ l.length rfl rfl rfl rfl ?b2 ?b3 ?b4 ?_)
 case b2=>rw[M];omega
 case b3=>unfold maxLen;omega
 case b4=>simp
 intro T c m;have A:Below w.heap.size w T:=O.grown m (Kaq _) (fun k h=>by cases h)
 have n:T.ownsRow w.heap.size 256 3 (.slice (some ⟨w.heap.size,0,none⟩) l.length l.length) l.length ((Q17 Q24 l 0).flatMap Q24.cs):=by
  rw[Q2f,<-Q11 Q24 (.agg #[.int .i64 0,.int .i64 0,.int .i64 0]) rfl];exact c
 clear c m O;go_wp2
 go_loopw [4] (fun i wr=> ∃k:Nat,k<=l.length/\i=.int .i64 k/\wr.ownsRow w.heap.size 256 3 (.slice (some ⟨w.heap.size,0,none⟩) l.length l.length) l.length ((Q17 Q24 l k).flatMap Q24.cs)/\Below w.heap.size w wr)
  (fun i _=>l.length - (intOf i).toNat)
 case atStart=>exact⟨0,Kcq _,rfl,n,A⟩
 case round=>
  obtain⟨k,Y,rfl,c,d⟩:=hrel
  by_cases hlt:k < l.length
  ·rcases E with E|⟨b,ac,rfl,t,f⟩
   ·subst E;simp at hlt
   obtain⟨x,y,z,v⟩:∃x y z,l.getD k (0,0,0)=(x,y,z):=⟨_,_,_,rfl⟩;have j:=RdL.cmd (C:=w.heap.size) f k hlt;rw[v]at j;have F:=bKq0v0v0 d j.1 t;have G:=bKq0v0v0 d j.2.1 t;have H:=bKq0v0v0 d j.2.2 t;have HW:=Q00 (hlt);clear f j;go_wp2_with fail;refine(Q98 _ _ _ _).mono ?_;rintro e B ⟨rfl,s⟩;have D:Below w.heap.size w B:=d.trans (s.mono d.size);have a:=Q0a c s
   have I:((Q17 Q24 l k).flatMap Q24.cs).length=l.length * 3:=by rw[Q0f,Q1C Q24 l k Y];rfl
   have p:=a.cellAt (k * 3) (by omega);have q:=a.cellAt (k * 3+1) (by omega);have r:=a.cellAt (k * 3+2) (by omega);have U:=a.frozenAt (k * 3);have V:=a.frozenAt (k * 3+1);have X:=a.frozenAt (k * 3+2);obtain⟨u0,Z⟩:∃u,B.cell? ⟨w.heap.size,k * 3,none⟩=some u:=⟨_,p.trans (KGq (by omega))⟩;obtain⟨u1,aa⟩:∃u,B.cell? ⟨w.heap.size,k * 3+1,none⟩=some u:=⟨_,q.trans (KGq (by omega))⟩;obtain⟨u2,ab⟩:∃u,B.cell? ⟨w.heap.size,k * 3+2,none⟩=some u:=⟨_,r.trans (KGq (by omega))⟩
   have N:=Q00 (QcY (g:=w.heap.size) v hlt (Kaq _) a D);clear v c d p q r A n a F G H s I;go_wp2;go_roundw
   case rel=>exact⟨k+1,by omega,by go_num,N.out.1,N.out.2⟩
   case measure=>simp[intOf];omega
  ·have e:k=l.length:=by omega
   subst e;rw[Q2R]at c;go_wp2;go_ret;exact⟨w.heap.size,rfl,c,d⟩
theorem Q6T (H I:Option Addr) (J L:Nat) (l:List Cd) (w:World) (u:RdC w.heap.size w H l) (h2:RdC w.heap.size w I l) (O:l.length<=1048576):
  Calls Tryz.prog 137 #[.slice H l.length J,.slice I l.length L] w fun e w'=>e=.returned (.bool true)/\Below w.heap.size w w':=by
 go_enter Tryz.func137,Tryz.ntmps137;go_wp2
 go_loopw [5] (fun i wr=> ∃k:Nat,k<=l.length/\i=.int .i64 k/\Below w.heap.size w wr)
  (fun i _=>l.length - (intOf i).toNat)
 case atStart=>exact⟨0,Kcq _,rfl,KBq⟩
 case round=>
  obtain⟨k,N,rfl,b⟩:=hrel
  by_cases hlt:k < l.length
  ·rcases u with u|⟨r,c,rfl,m,h⟩
   ·subst u;simp at hlt
   rcases h2 with h2|⟨s,d,rfl,n,j⟩
   ·subst h2;simp at hlt
   obtain⟨x,y,z,t⟩:∃x y z,l.getD k (0,0,0)=(x,y,z):=⟨_,_,_,rfl⟩;have f:=RdL.cmd (C:=w.heap.size) h k hlt;have g:=RdL.cmd (C:=w.heap.size) j k hlt;rw[t]at f g;have v:=bKq0v0v0 b f.1 m;have A:=bKq0v0v0 b f.2.1 m;have B:=bKq0v0v0 b f.2.2 m;have D:=bKq0v0v0 b g.1 n;have E:=bKq0v0v0 b g.2.1 n;have F:=bKq0v0v0 b g.2.2 n;have G:=Q00 b;have q:=Q00 b.size;clear h j b f g t
   have P:(k:Int) < (l.length:Int):=by omega
   go_wp2
   go_region_held3 (fun w'=>w'.cell? ⟨r,c+k * 3,none⟩=some (.int .i64 x)/\w'.cell? ⟨r,c+k * 3+1,none⟩=some (.int .i64 y)/\w'.cell? ⟨r,c+k * 3+2,none⟩=some (.int .i64 z)/\w'.cell? ⟨s,d+k * 3,none⟩=some (.int .i64 x)/\w'.cell? ⟨s,d+k * 3+1,none⟩=some (.int .i64 y)/\w'.cell? ⟨s,d+k * 3+2,none⟩=some (.int .i64 z)) (first|exact⟨v,A,B,D,E,F⟩) (first|(go_at_call 185;refine(Q7u _ _ _ _).mono ?_;rintro e M ⟨rfl,a⟩;replace a:Below wr.heap.size wr M:=(KHq KBq).trans a;have v:=(a.cell (p:=⟨r,c+k * 3,none⟩) (Kbq m q.out)).trans v;have A:=(a.cell (p:=⟨r,c+k * 3+1,none⟩) (Kbq m q.out)).trans A;have B:=(a.cell (p:=⟨r,c+k * 3+2,none⟩) (Kbq m q.out)).trans B;have D:=(a.cell (p:=⟨s,d+k * 3,none⟩) (Kbq n q.out)).trans D;have E:=(a.cell (p:=⟨s,d+k * 3+1,none⟩) (Kbq n q.out)).trans E;have F:=(a.cell (p:=⟨s,d+k * 3+2,none⟩) (Kbq n q.out)).trans F))
   go_wp2;go_roundw
   case rel=>exact⟨k+1,by omega,by go_num,G.out.trans (a.mono G.out.size)⟩
   case measure=>simp[intOf];omega
  ·have e:k=l.length:=by omega
   subst e;go_wp2;go_ret;exact⟨rfl,b⟩
def QgH (k:Int):=((k,k+1,k+1+1):_)
theorem Q5V (base:Nat) (v:Value) (l:List _) (k:Int) (w:World) (hv:ownL Q24 256 w base v l) (F:0<=k) (G:k<=1073741824) (n:l.length<=1048576):
  Calls Tryz.prog 143 #[v,.int .i64 k] w fun e p=>e=.returned (.int .i64 (k+3 * l.length))/\ownL Q24 256 p base v (mkL QgH 3 k l.length)/\w.grownBy p v.ownBlock:=by
 rcases hv.2 with⟨rfl,h2⟩|⟨g,cap,t,rfl,H,_⟩
 ·have e:l=[]:=List.eq_nil_of_length_eq_zero h2
  subst e;go_enter Tryz.func143,Tryz.ntmps143;go_wp2;refine wp_loop_rounds 1 ?_;rw[rounds_succ];go_wp2;go_ret;exact⟨by simp,by simpa[mkL]using hv,World.grownBy.refl _ _⟩
 ·have d:w.ownsRow base 256 3 (.slice (some ⟨g,0,none⟩) l.length cap) l.length ((Q3K QgH 3 l k 0).flatMap Q24.cs):=by rw[Q3B];exact hv
  go_enter Tryz.func143,Tryz.ntmps143;go_wp2
  go_loopw [1,5] (fun q j wr=> ∃i:Nat,i<=l.length/\j=.int .i64 i/\q=.int .i64 (k+3 * (i:Int))/\wr.ownsRow base 256 3 (.slice (some ⟨g,0,none⟩) l.length cap) l.length ((Q3K QgH 3 l k i).flatMap Q24.cs)/\w.grownBy wr (some g))
   (fun _ j _=>l.length - (intOf j).toNat)
  case atStart=>exact⟨0,Kcq _,rfl,by simp,d,World.grownBy.refl _ _⟩
  case round=>
   obtain⟨i,hi,rfl,rfl,b,c⟩:=hrel
   by_cases hlt:i < l.length
   ·have f:((Q3K QgH 3 l k i).flatMap Q24.cs).length=l.length * 3:=by rw[Q0f,Q2q _ _ _ _ _ hi];rfl
    have E:=Q2T Q24 rfl (a:=QgH (k+3 * (i:Int))) rfl (Q3K QgH 3 l k i) i;have m:=Q4F QgH 3 l k i hlt;generalize hxs:(Q3K QgH 3 l k i).flatMap Q24.cs=xs at *;have s1:=Q0y (j:=i * 3) (u:=.int .i64 (k+3 * (i:Int))) b c;have s2:=Q0y (j:=i * 3+1) (u:=.int .i64 (k+3 * (i:Int)+1)) s1.1 s1.2;have s3:=Q0y (j:=i * 3+2) (u:=.int .i64 (k+3 * (i:Int)+1+1)) s2.1 s2.2;have B:=b.frozenAt (i * 3);obtain⟨I,x⟩:∃z,wr.cell? ⟨g,i * 3,none⟩=some z:=⟨_,(b.cellAt (i * 3) (by omega)).trans (KGq (by(try simp) <;> omega))⟩;have C:=s1.1.frozenAt (i * 3+1)
    obtain⟨J,y⟩:∃z,(wr.setCell ⟨g,i * 3,none⟩ (.int .i64 (k+3 * (i:Int)))).cell? ⟨g,i * 3+1,none⟩=some z:=⟨_,(s1.1.cellAt (i * 3+1) (by omega)).trans (KGq (by(try simp) <;> omega))⟩;have D:=s2.1.frozenAt (i * 3+2);obtain⟨L,A⟩:∃z,((wr.setCell ⟨g,i * 3,none⟩ (.int .i64 (k+3 * (i:Int)))).setCell ⟨g,i * 3+1,none⟩ (.int .i64 (k+3 * (i:Int)+1))).cell? ⟨g,i * 3+2,none⟩=some z:=⟨_,(s2.1.cellAt (i * 3+2) (by omega)).trans (KGq (by(try simp) <;> omega))⟩;have S:=Q00 s3;have r:=Q00 (E.trans (congrArg (fun z=>List.flatMap Q24.cs z) m))
    have M:(i:Int) < (l.length:Int):=by omega
    clear s1 s2 s3 b c hv d E m f;go_wp2;go_roundw
    case rel=>
     refine⟨i+1,by omega,by go_num,by go_num, ?_,S.out.2⟩;have h:=S.out.1;rw[<-r.out];exact h
    case measure=>simp[intOf];omega
   ·have e:i=l.length:=by omega
    subst e;rw[Q4s]at b;have s:=Q00 b;clear b;go_wp2;go_ret;exact⟨rfl,(by have:=s.out;unfold ownL;rw[Q1z];exact this),c⟩
structure Jm where
 key:Int
 l:List Cd
 safe:Int
abbrev jrn (k:Int) (v:Value) (s:Int):Value:=.agg #[.int .i64 k,v,.int .i64 s]
abbrev InC:=InL Q24 256
def RdJm (C:Nat) (w:World) (v:Value) (m:Jm):Prop:=∃vl,v=jrn m.key vl m.safe/\RdV Q24 C w vl m.l
def InJm (lo hi:Nat) (w:World) (v:Value) (m:Jm):Prop:=∃vl,v=jrn m.key vl m.safe/\InC lo hi w vl m.l
theorem RdJm.kept {C D:Nat} {w w':World} {v:Value} {m:Jm} (h:RdJm C w v m) (hb:Below D w w') (hc:C<=D):RdJm C w' v m:=by
 obtain⟨vl,e,h1⟩:=h;exact⟨vl,e,h1.kept hb hc⟩
theorem RdJm.le {C D:Nat} {w:World} {v:Value} {m:Jm} (h:RdJm C w v m) (hc:C<=D):RdJm D w v m:=by
 obtain⟨vl,e,h1⟩:=h;exact⟨vl,e,h1.le hc⟩
theorem InJm.rd {lo hi:Nat} {w:World} {v:Value} {m:Jm} (h:InJm lo hi w v m):RdJm hi w v m:=by
 obtain⟨vl,e,h1⟩:=h;exact⟨vl,e,InL.rd (L:=Q24) h1⟩
theorem InJm.step {a b lo hi:Nat} {w w':World} {v:Value} {m:Jm} (h:InJm a b w v m) (s:Stp lo hi w w') (hd:hi<=a\/b<=lo):InJm a b w' v m:=by
 obtain⟨vl,e,h1⟩:=h;exact⟨vl,e,InRow.step h1 s hd⟩
def capJm (v:Value):Prop:=∃k vl s,v=jrn k vl s/\Qiz vl
theorem InJm.cap {lo hi:Nat} {w:World} {v:Value} {m:Jm} (h:InJm lo hi w v m):capJm v:=by
 obtain⟨vl,e,h1⟩:=h;exact⟨_,vl,_,e,InRow.cap h1⟩
theorem capJm.one {k s:Int} {o:Option Addr} {n c:Nat} (h:capJm (jrn k (.slice o n c) s)):o=none->c=0:=by
 obtain⟨d,g,f,e,b⟩:=h;injection e with e;simp at e;obtain⟨_,a,_⟩:=e
 exact fun h=>b n c (by rw[<-a,h])
def Qhd (m:Jm):Prop:=m.l.length<=1048576
theorem QcM:Tryz.prog.cellsOf 50=3:=by kernel_rfl
theorem Q8X:Tryz.prog.cellsOf 48=1:=by kernel_rfl
theorem Q9r (v:Value) (m:Jm) (w:World) (s:RdJm w.heap.size w v m) (t:Qhd m):
  Calls Tryz.prog 102 #[v] w fun e q=> ∃r,e=.returned r/\InJm w.heap.size q.heap.size q r m/\Below w.heap.size w q:=by
 obtain⟨y,rfl,o,c,rfl,x⟩:=s;have h:Below w.heap.size w w:=KBq;go_enter Tryz.func102,Tryz.ntmps102
 go_wp2_with (first|(go_at_call 154;refine(Q7s o c m.l _ ((x.kept (D:=w.heap.size) (by(repeat (first|with_reducible (first|exact h|exact KBq|refine KHq ?_|refine below_drewN ?_ _|refine KOq ?_ ?_ _|refine KNq ?_ ?_ _)|(focus (simp;first|done|omega))|omega))) (Kaq _)).le (by(try simp) <;> omega)) t).mono ?_;rintro e b ⟨g,rfl,d,a⟩;obtain⟨p,u⟩:=Q0F a;have j:w.heap.size < b.heap.size:=(by have i:=a.size;(try simp at i);omega);have k:w.heap.size+1 < b.heap.size:=(by have i:=a.size;(try simp at i);omega);have n:w.heap.size+1+1 < b.heap.size:=(by have i:=a.size;(try simp at i);omega);have h:Below w.heap.size w b:=(by refine Below.trans ?_ (a.mono (by have hs:=h.size;(try simp) <;> omega));(repeat (first|with_reducible (first|exact h|exact KBq|refine KHq ?_|refine below_drewN ?_ _|refine KOq ?_ ?_ _|refine KNq ?_ ?_ _)|(focus (simp;first|done|omega))|omega)))))
 have f:QhX b (w.heap.size+1+1+1) (.slice (some ⟨g,0,none⟩) m.l.length m.l.length) m.l:=by simpa using d
 clear d a;refine bodyPost_ret (v:=jrn m.key (.slice (some ⟨g,0,none⟩) m.l.length m.l.length) m.safe) (by simp[results,Tryz.results102,go_sem,p,j,k,n]) rfl ⟨_,rfl,⟨_,rfl,InRow.of ?_⟩, ?_⟩
 ·refine Q06 (base:=w.heap.size+1+1+1) ?_ (by omega)
  repeat (refine ownsRow_setCell_below ?_ (by simp <;> omega) _)
  exact f
 ·(repeat (first|with_reducible (first|exact h|exact KBq|refine KHq ?_|refine below_drewN ?_ _|refine KOq ?_ ?_ _|refine KNq ?_ ?_ _)|(focus (simp;first|done|omega))|omega))
theorem QaM (g h:Value) (m:Jm) (w:World) (j:RdJm w.heap.size w g m) (h2:RdJm w.heap.size w h m) (k:m.l.length<=1048576):
  Calls Tryz.prog 79 #[g,h] w fun e u=>e=.returned (.bool true)/\Below w.heap.size w u:=by
 obtain⟨y,rfl,o,c,rfl,r⟩:=j;obtain⟨t,rfl,q,i,rfl,s⟩:=h2;have a:Below w.heap.size w w:=KBq;go_enter Tryz.func79,Tryz.ntmps79
 go_wp2_with (first|(go_at_call 137;refine(Q6T o q c i m.l _ ((r.kept (D:=w.heap.size) (by(repeat (first|with_reducible (first|exact a|exact KBq|refine KHq ?_|refine below_drewN ?_ _|refine KOq ?_ ?_ _|refine KNq ?_ ?_ _)|(focus (simp;first|done|omega))|omega))) (Kaq _)).le (by(try simp) <;> omega)) ((s.kept (D:=w.heap.size) (by(repeat (first|with_reducible (first|exact a|exact KBq|refine KHq ?_|refine below_drewN ?_ _|refine KOq ?_ ?_ _|refine KNq ?_ ?_ _)|(focus (simp;first|done|omega))|omega))) (Kaq _)).le (by(try simp) <;> omega)) k).mono ?_;rintro e f ⟨rfl,b⟩;obtain⟨v,x⟩:=Q0F b;have n:w.heap.size < f.heap.size:=(by have d:=b.size;(try simp at d);omega);have p:w.heap.size+1 < f.heap.size:=(by have d:=b.size;(try simp at d);omega);have a:Below w.heap.size w f:=(by refine Below.trans ?_ (b.mono (by have hs:=a.size;(try simp) <;> omega));(repeat (first|with_reducible (first|exact a|exact KBq|refine KHq ?_|refine below_drewN ?_ _|refine KOq ?_ ?_ _|refine KNq ?_ ?_ _)|(focus (simp;first|done|omega))|omega)))))
 go_ret;exact⟨rfl,by(repeat (first|with_reducible (first|exact a|exact KBq|refine KHq ?_|refine below_drewN ?_ _|refine KOq ?_ ?_ _|refine KNq ?_ ?_ _)|(focus (simp;first|done|omega))|omega))⟩
def QiN (k:Int) (m:Jm):Jm:={ m with l:=mkL QgH 3 k m.l.length }
theorem Q7n (lo hi:Nat) (v:Value) (m:Jm) (k:Int) (w:World) (hv:InJm lo hi w v m) (n:0<=k) (q:k<=1000000) (p:m.l.length<=1048576):
  Calls Tryz.prog 85 #[v,.int .i64 k] w fun e i=>e=.returned (.int .i64 (k+3 * m.l.length))/\InJm lo hi i v (QiN k m)/\Stp lo hi w i:=by
 obtain⟨r,rfl,iv⟩:=hv;obtain⟨g,c,h,_⟩:=InL.rd (L:=Q24) iv;subst h;have s1:Hid (Stp lo hi w (w.alloc (.cells #[.int .i64 m.key,.slice g m.l.length c,.int .i64 m.safe] 25))):=Stp.of (KBq.alloc (Kaq _) _);have f:Hid (InC lo hi (w.alloc (.cells #[.int .i64 m.key,.slice g m.l.length c,.int .i64 m.safe] 25)) (.slice g m.l.length c) m.l):=⟨World.ownsRow.alloc iv.1 _,iv.2⟩;clear iv;go_enter Tryz.func85,Tryz.ntmps85;go_wp2_with fail;generalize w.alloc (.cells #[.int .i64 m.key,.slice g m.l.length c,.int .i64 m.safe] 25)=w1 at *
 refine(Q5V lo _ m.l k w1 f.out.1 n (by omega) p).mono ?_;rintro e j ⟨rfl,a,d⟩;have H:Hid (InJm lo hi j (jrn m.key (.slice g m.l.length c) m.safe) (QiN k m)/\Stp lo hi w j):=⟨⟨_,rfl,a,f.out.2⟩,s1.out.trans (Stp.grown d (fun b e=>⟨(f.out.1.lt b e).1,f.out.2 b e⟩))⟩;clear a d s1 f;go_wp2;go_ret;exact⟨rfl,H.out.1,H.out.2⟩
def Q20 (n:Nat) (a p:Int):Nat:=((a * 31+p) % (n:Int)).toNat
theorem Q3c {n:Nat} (c:0 < n) (a p:Int):Q20 n a p < n:=by
 unfold Q20;have b:=Int.emod_nonneg (a * 31+p) (show(n:Int)≠0 by omega);have h2:=Int.emod_lt_of_pos (a * 31+p) (show(0:Int) < n by omega);omega
theorem Qd3 {n:Nat} (hn:0 < n) (a p:Int):((Q20 n a p:Nat):Int)=(a * 31+p) % (n:Int):=by
 unfold Q20;have h1:=Int.emod_nonneg (a * 31+p) (show(n:Int)≠0 by omega);omega
theorem Q82 {n:Nat} (hn:0 < n) {a p:Int} (h:Q0g a p=true):(a * 31+p).tmod (n:Int)=((Q20 n a p:Nat):Int):=by
 rw[Qd3 hn,Int.tmod_eq_emod_of_nonneg];have:=Q2t.1 h;omega
theorem QbX {n:Nat} (hn:0 < n) {a p:Int} (h:Q0g a p=true):(31 * a+p).tmod (n:Int)=((Q20 n a p:Nat):Int):=by
 rw[Int.mul_comm];exact Q82 hn h
theorem Q9Q (n i:Nat):((i:Int)+1).tmod (n:Int)=(((i+1) % n:Nat):Int):=by
 rw[Int.tmod_eq_emod_of_nonneg (by omega)];simp
def Qjb (n i k:Nat):Nat:=(k+n - i) % n
theorem Q6N {n:Nat} (hn:0 < n) (i:Nat):(i+1) % n < n:=Nat.mod_lt _ hn
def Q48 (l:List Sl) (a p:Int):Nat->Nat->Int × Bool
 |0,_=>(-1,false)
 |f+1,i=>if(l.getD i sl0).u=true then(if(l.getD i sl0).a=a/\(l.getD i sl0).p=p then((i:Int),true)else Q48 l a p f ((i+1) % l.length))else((i:Int),false)
def Q2x (l:List Sl) (a p:Int):Int × Bool:=Q48 l a p l.length (Q20 l.length a p)
theorem Q55 {l:List Sl} {a p:Int} {f i:Nat} (h:(l.getD i sl0).u=false):Q48 l a p (f+1) i=((i:Int),false):=by simp only[Q48,h];simp
theorem Q75 {l:List Sl} {a p:Int} {f i:Nat} (h:(l.getD i sl0).u=true) (h1:(l.getD i sl0).a=a) (h2:(l.getD i sl0).p=p):Q48 l a p (f+1) i=((i:Int),true):=by simp only[Q48,h,h1,h2];simp
theorem Q5r {l:List Sl} {a p:Int} {f i:Nat} (h:(l.getD i sl0).u=true) (h1:¬((l.getD i sl0).a=a/\(l.getD i sl0).p=p)):Q48 l a p (f+1) i=Q48 l a p f ((i+1) % l.length):=by simp only[Q48,h,h1];simp
theorem Q76 (l:List Sl) (b:0 < l.length) (a p:Int):∀(f i:Nat),i < l.length->Q48 l a p f i=(-1,false)\/∃k,k < l.length/\((Q48 l a p f i=((k:Int),false)/\(l.getD k sl0).u=false)\/(Q48 l a p f i=((k:Int),true)/\(l.getD k sl0).u=true/\(l.getD k sl0).a=a/\(l.getD k sl0).p=p))
 |0,i,_=> .inl rfl
 |f+1,i,hi=>by
  cases hu:(l.getD i sl0).u with
  |false=>exact .inr ⟨i,hi,.inl ⟨Q55 hu,hu⟩⟩
  |true=>
   by_cases h:(l.getD i sl0).a=a/\(l.getD i sl0).p=p
   ·exact .inr ⟨i,hi,.inr ⟨Q75 hu h.1 h.2,hu,h.1,h.2⟩⟩
   ·rw[Q5r hu h]
    exact Q76 l b a p f _ (Q6N b i)
theorem Q3R (l:List Sl) (b:0 < l.length) (a p:Int):Q2x l a p=(-1,false)\/∃k,k < l.length/\((Q2x l a p=((k:Int),false)/\(l.getD k sl0).u=false)\/(Q2x l a p=((k:Int),true)/\(l.getD k sl0).u=true/\(l.getD k sl0).a=a/\(l.getD k sl0).p=p)):=
 Q76 l b a p _ _ (Q3c b a p)
def Q2a (s:Sl):Bool:=if s.u=true then Q0g s.a s.p && decide (0<=s.v) && decide (s.v<=100000) && decide (0<=s.t) && decide (s.t<=200000)else decide (s.a=0) && decide (s.p=0) && decide (s.v=0) && decide (s.t=0)
theorem Q8b {s:Sl} (h:s.u=true):Q2a s=true↔Q0g s.a s.p=true/\0<=s.v/\s.v<=100000/\0<=s.t/\s.t<=200000:=by simp[Q2a,h,and_assoc]
theorem QdB {s:Sl} (h:s.u=false):Q2a s=true↔s=sl0:=by
 obtain⟨u,a,p,v,t⟩:=s;simp at h;subst h;simp[Q2a,and_assoc]
def QaO (l:List Sl) (i:Nat):Bool:= !(l.getD i sl0).u||(Q2x l (l.getD i sl0).a (l.getD i sl0).p==((i:Int),true))
def Q3g (l:List Sl) (i:Nat):Bool:=Q2a (l.getD i sl0) && QaO l i
def Q0k (l:List Sl):Bool:=decide (1<=l.length) && decide (l.length<=16) && (List.range l.length).all (Q3g l)
theorem Q10 {l:List Sl}:Q0k l=true↔1<=l.length/\l.length<=16/\∀i,i < l.length->Q3g l i=true:=by simp[Q0k,and_assoc]
theorem Q9v {l:List Sl} (h1:1<=l.length) (h2:l.length<=16) (h:∀i,i < l.length->Q3g l i=true):true=Q0k l:=(Q10.2 ⟨h1,h2,h⟩).symm
theorem Q2k {l:List Sl} {i:Nat} (hi:i < l.length) (h:Q3g l i=false):false=Q0k l:=by
 cases hb:Q0k l with
 |false=>rfl
 |true=>rw[(Q10.1 hb).2.2 i hi]at h;cases h
theorem Q5w {l:List Sl} (h:¬(1<=l.length/\l.length<=16)):false=Q0k l:=by
 cases hb:Q0k l with
 |false=>rfl
 |true=>exact absurd ⟨(Q10.1 hb).1,(Q10.1 hb).2.1⟩ h
theorem Q3N {l:List Sl} {i:Nat} (h:Q2a (l.getD i sl0)=false):Q3g l i=false:=by unfold Q3g;rw[h];rfl
theorem Qeg {l:List Sl} {i:Nat} (b:(l.getD i sl0).u=true) (h:Q2x l (l.getD i sl0).a (l.getD i sl0).p≠((i:Int),true)):Q3g l i=false:=by unfold Q3g QaO;rw[b,beq_eq_false_iff_ne.2 h];cases Q2a (l.getD i sl0) <;> rfl
theorem Qdk {l:List Sl} {i:Nat} (hu:(l.getD i sl0).u=false) (h:Q2a (l.getD i sl0)=true):Q3g l i=true:=by unfold Q3g QaO;rw[hu,h];rfl
theorem Qda {l:List Sl} {i:Nat} (h:Q2a (l.getD i sl0)=true) (h':Q2x l (l.getD i sl0).a (l.getD i sl0).p=((i:Int),true)):Q3g l i=true:=by unfold Q3g QaO;rw[h,h'];cases(l.getD i sl0).u <;> simp
def QhU (l:List Sl) (k:Nat):Prop:=∀i,i < k->Q3g l i=true
theorem Q7Y {l:List Sl} {k:Nat} (h:QhU l k) (hk:Q3g l k=true):QhU l (k+1):=fun i hi=>by
 rcases Nat.lt_succ_iff_lt_or_eq.1 hi with h1|h1
 ·exact h i h1
 ·rw[h1];exact hk
def Qak (l:List Sl) (k:Nat):Prop:=∀i,i < k->Q2a (l.getD i sl0)=true
theorem QaR {l:List Sl} {k:Nat} (h:Qak l k) (hk:Q2a (l.getD k sl0)=true):Qak l (k+1):=fun i hi=>by
 rcases Nat.lt_succ_iff_lt_or_eq.1 hi with h1|h1
 ·exact h i h1
 ·rw[h1];exact hk
def Q9n (l:List Sl) (a p:Int):Sl:=if(Q2x l a p).2=true then l.getD (Q2x l a p).1.toNat sl0 else sl0
def wt (n:Nat) (l:List Sl) (j:Nat):Nat:=if(l.getD j sl0).u=true then Qjb n (Q20 n (l.getD j sl0).a (l.getD j sl0).p) j else 0
theorem Qap {a n:Nat} (h:a < n):a % n=a:=Nat.mod_eq_of_lt h
def Q0H (aa bb:List (List Int)):Nat->Int
 |0=> 0
 |k+1=>Q0H aa bb k+(if aa.getD k []=bb.getD k []then 0 else 1)
theorem Q3V (aa bb:List (List Int)):∀k,0<=Q0H aa bb k/\Q0H aa bb k<=k
 |0=>⟨Int.le_refl _,Int.le_refl _⟩
 |k+1=>by have:=Q3V aa bb k;unfold Q0H;split <;> omega
def Q0Y (aa bb:List (List Int)):Int:=if aa.length=8/\bb.length=8 then Q0H aa bb 8 else -1
theorem Qao {aa bb:List (List Int)} (h:¬(aa.length=8/\bb.length=8)): -1=Q0Y aa bb:=by rw[Q0Y,if_neg h]
theorem Q2v {aa bb:List (List Int)} {k:Nat} {ra rb:List Int} (h1:aa.getD k []=ra) (h2:bb.getD k []=rb) (h:ra=rb):Q0H aa bb k=Q0H aa bb (k+1):=by
 unfold Q0H;rw[h1,h2,if_pos h];cases k <;> simp[Q0H]
theorem Q3D {aa bb:List (List Int)} {k:Nat} {a b:List Int} (c:aa.getD k []=a) (h2:bb.getD k []=b) (h:a≠b):Q0H aa bb k+1=Q0H aa bb (k+1):=by
 rw[show Q0H aa bb (k+1)=Q0H aa bb k+(if aa.getD k []=bb.getD k []then 0 else 1)from rfl,c,h2,if_neg h]
theorem Q6v (C D:Option Addr) (H I:Nat) (a l2:List Int) (w:World) (t:RdI w.heap.size w C a) (h2:RdI w.heap.size w D l2) (O:a.length<=1048576) (P:l2.length<=1048576):
  Calls Tryz.prog 250 #[.slice C a.length H,.slice D l2.length I] w fun e R=>e=.returned (.bool (decide (a=l2)))/\Below w.heap.size w R:=by
 by_cases hlen:a.length=l2.length
 ·have z:((a.length:Int) !=(l2.length:Int))=false:=by simp[hlen]
  have T:=Q00 hlen
  have n:a.length<=l2.length:=by omega
  have N:l2.length<=a.length:=by omega
  clear hlen;go_enter Tryz.func250,Tryz.ntmps250;go_wp2
  go_loopw [4,13] (fun rv i wr=> ∃k:Nat,k<=a.length/\i=.int .i64 k/\rv=.bool false/\a.take k=l2.take k/\Below w.heap.size w wr)
   (fun _ i _=>a.length - (intOf i).toNat)
  case atStart=>exact⟨0,Kcq _,rfl,rfl,rfl,KBq⟩
  case round=>
   obtain⟨k,U,rfl,rfl,f,d⟩:=hrel;have G:=Q00 f
   by_cases hlt:k < a.length
   ·rcases t with t|⟨A,j,rfl,u,b⟩
    ·subst t;simp at hlt
    rcases h2 with h2|⟨B,l,rfl,v,c⟩
    ·subst h2;simp at n;simp[n]at hlt
    have g:k < l2.length:=by omega
    have L:wr.cell? ⟨A,j+k,none⟩=some (.int .i64 (a.getD k 0)):=(d.cell (p:=⟨A,j+k,none⟩) u).trans (RdL.int b k hlt);have M:wr.cell? ⟨B,l+k,none⟩=some (.int .i64 (l2.getD k 0)):=(d.cell (p:=⟨B,l+k,none⟩) v).trans (RdL.int c k g);have q:=Q00 d;have E:=Q00 (Q1c a k hlt);have F:=Q00 (Q1c l2 k g)
    have m:Hid (a=l2->a.getD k 0=l2.getD k 0):=fun h=>by rw[h]
    clear b c
    have V:(k:Int) < (a.length:Int):=by omega
    have X:(k:Int) < (l2.length:Int):=by omega
    generalize a.getD k 0=x at *;generalize l2.getD k 0=y at *;clear f d
    by_cases hxy:x=y
    ·have J:(x !=y)=false:=by simp[hxy]
     have s:=Q00 hxy;clear hxy m;go_wp2
     go_quiet (fail)
     go_wp2;go_roundw
     case rel=>
      refine⟨k+1,by omega,by go_num,rfl, ?_, ?_⟩
      ·rw[E.out,F.out,G.out,s.out]
      ·exact below_drewN q.out _
     case measure=>simp[intOf];omega
    ·have J:(x !=y)=true:=by simp[hxy]
     have s:Hid (a≠l2):=fun h=>hxy (m.out h)
     clear hxy m E F;go_wp2
     go_quiet (fail)
     go_wp2;go_ret;exact⟨Q03 (decide_eq_false s.out).symm,below_drewN q.out _⟩
   ·have e:a=l2:=by
     have:=f;rw[List.take_of_length_le (by omega),List.take_of_length_le (by omega)]at this;exact this
    have r:=Q00 e;have q:=Q00 d;clear e f d;go_wp2;go_ret;exact⟨Q03 (decide_eq_true r.out).symm,q.out⟩
 ·have z:((a.length:Int) !=(l2.length:Int))=true:=by simp;omega
  have r:Hid (a≠l2):=fun h=>hlen (by rw[h])
  go_enter Tryz.func250,Tryz.ntmps250;go_wp2;go_ret;exact⟨Q03 (decide_eq_false r.out).symm,KBq⟩
theorem Q8O (N O:Option Addr) (X Y:Nat) (aa bb:List (List Int)) (w:World) (G:RdLL w.heap.size w N aa) (H:RdLL w.heap.size w O bb) (la:aa.length<=1048576) (lb:bb.length<=1048576)
  (P:∀i,i < aa.length->(aa.getD i []).length<=1048576) (R:∀i,i < bb.length->(bb.getD i []).length<=1048576):
  Calls Tryz.prog 234 #[.slice N aa.length X,.slice O bb.length Y] w fun e w'=>e=.returned (.int .i64 (Q0Y aa bb))/\Below w.heap.size w w':=by
 by_cases h8:aa.length=8/\bb.length=8
 ·have T:=Q00 (show Q0H aa bb 8=Q0Y aa bb by rw[Q0Y,if_pos h8])
  obtain⟨E,F⟩:=h8;have r:=Q00 E;have s:=Q00 F;go_enter Tryz.func234,Tryz.ntmps234;go_wp2;clear E F
  go_loopw [5,18] (fun n i wr=> ∃k:Nat,k<=8/\i=.int .i64 k/\n=.int .i64 (Q0H aa bb k)/\Below w.heap.size w wr)
   (fun _ i _=> 8 - (intOf i).toNat)
  case atStart=>exact⟨0,Kcq _,rfl,rfl,KBq⟩
  case round=>
   obtain⟨k,hk,rfl,rfl,a⟩:=hrel;have Z:=Q3V aa bb k
   by_cases hlt:k < 8
   ·have L:k < aa.length:=by rw[r.out];exact hlt
    have M:k < bb.length:=by rw[s.out];exact hlt
    have j1:(k:Int) < (aa.length:Int):=by omega
    have j2:(k:Int) < (bb.length:Int):=by omega
    obtain⟨U,j,B,u,rfl,x,f,c⟩:=G.at (Kaq _) k L;obtain⟨V,l,C,v,rfl,y,g,d⟩:=H.at (Kaq _) k M;have z:=P k L;have A:=R k M;have I:=(a.cell (p:=⟨U,j+k,none⟩) x).trans f;have J:=(a.cell (p:=⟨V,l+k,none⟩) y).trans g;replace c:=(c.kept a (Kaq _)).le a.size;replace d:=(d.kept a (Kaq _)).le a.size;have m:=Q00 a;clear f g P R G H a;generalize hra:aa.getD k []=ra at *;generalize hrb:bb.getD k []=rb at *;have q:=Q6v B C u v ra rb wr c d z A;clear c d
    by_cases hab:ra=rb
    ·have t:=Q00 (Q2v hra hrb hab)
     rw[decide_eq_true hab]at q;clear hra hrb hab;go_wp2_with fail;refine q.mono ?_;rintro e w2 ⟨rfl,b⟩;go_wp2;go_roundw
     case rel=>exact⟨k+1,by omega,by go_num,by rw[t.out],m.out.trans (b.mono m.out.size)⟩
     case measure=>simp[intOf];omega
    ·have t:=Q00 (Q3D hra hrb hab)
     rw[decide_eq_false hab]at q;clear hra hrb hab;go_wp2_with fail;refine q.mono ?_;rintro e w2 ⟨rfl,b⟩;go_wp2;go_roundw
     case rel=>exact⟨k+1,by omega,by go_num,by rw[<-t.out],m.out.trans (b.mono m.out.size)⟩
     case measure=>simp[intOf];omega
   ·have e:k=8:=by omega
    subst e;go_wp2;go_ret;exact⟨Q0O T.out,a⟩
 ·have D:=Q00 (Qao h8)
  by_cases h1:aa.length=8
  ·have h2:¬bb.length=8:=fun h=>h8 ⟨h1,h⟩
   have n2:((bb.length:Int) !=8)=true:=by simp;omega
   go_enter Tryz.func234,Tryz.ntmps234;go_wp2;go_ret;exact⟨Q0O D.out,KBq⟩
  ·have n1:((aa.length:Int) !=8)=true:=by simp;omega
   go_enter Tryz.func234,Tryz.ntmps234;go_wp2;go_ret;exact⟨Q0O D.out,KBq⟩
theorem Q9h (oa ob:Option Addr) (ca cb:Nat) (aa bb:List (List Int)) (w:World) (hA:RdLL w.heap.size w oa aa) (hB:RdLL w.heap.size w ob bb) (la:aa.length<=1048576) (lb:bb.length<=1048576)
  (xa:∀i,i < aa.length->(aa.getD i []).length<=1048576) (xb:∀i,i < bb.length->(bb.getD i []).length<=1048576):
  Calls Tryz.prog 178 #[.slice oa aa.length ca,.slice ob bb.length cb] w fun e w'=>e=.returned (.int .i64 (Q0Y aa bb))/\Below w.heap.size w w':=by
 by_cases h8:aa.length=8/\bb.length=8
 ·have HE:=Q00 (show Q0H aa bb 8=Q0Y aa bb by rw[Q0Y,if_pos h8])
  obtain⟨Z,e2⟩:=h8;have L:=Q00 Z;have M:=Q00 e2;go_enter Tryz.func178,Tryz.ntmps178;go_wp2
  have ag:aa.length<=8:=by omega
  have ah:8<=aa.length:=by omega
  clear Z e2
  go_loopw [5,6] (fun n i wr=> ∃k:Nat,k<=8/\i=.int .i64 k/\n=.int .i64 (Q0H aa bb k)/\Below w.heap.size w wr)
   (fun _ i _=> 8 - (intOf i).toNat)
  case atStart=>exact⟨0,Kcq _,rfl,rfl,KBq⟩
  case round=>
   obtain⟨k,hk,rfl,rfl,g⟩:=hrel;have ad:=Q3V aa bb k
   by_cases hlt:k < 8
   ·have i1:k < aa.length:=by rw[L.out];exact hlt
    have i2:k < bb.length:=by rw[M.out];exact hlt
    have j1:(k:Int) < (aa.length:Int):=by omega
    have j2:(k:Int) < (bb.length:Int):=by omega
    obtain⟨N,l,ai,ab,rfl,z,a,C⟩:=hA.at (Kaq _) k i1;obtain⟨O,m,aj,ac,rfl,A,b,D⟩:=hB.at (Kaq _) k i2;have ae:=xa k i1;have af:=xb k i2;have H:=(g.cell (p:=⟨N,l+k,none⟩) z).trans a;have I:=(g.cell (p:=⟨O,m+k,none⟩) A).trans b;have V:=Q00 g;clear xa xb hA hB g;generalize hra:aa.getD k []=ra at *;generalize hrb:bb.getD k []=rb at *;have HS:=Q00 (Q2v hra hrb);have X:=Q00 (Q3D hra hrb);clear hra hrb;go_wp2
    go_quiet (fail)
    have u:Below w.heap.size w (wr.drewN nq):=below_drewN V.out _;have T:=(u.cell (p:=⟨N,l+k,none⟩) z).trans a;have U:=(u.cell (p:=⟨O,m+k,none⟩) A).trans b;clear V H I;generalize wr.drewN nq=wo at *;have J:=Q00 u;clear u;go_wp2
    go_loopw [7,8] (fun s j wi=> ∃(q:Nat) (t:Bool),q<=ra.length/\j=.int .i64 q/\s=.bool t/\(t=true↔ra.length=rb.length/\ra.take q=rb.take q)/\Below w.heap.size w wi)
     (fun _ j _=>ra.length - (intOf j).toNat)
    case atStart=>exact⟨0,_,Kcq _,rfl,rfl,by simp[Int.ofNat_inj],J.out⟩
    case round=>
     obtain⟨q,t,hq,rfl,rfl,ht,r⟩:=hrel;have v:=Q00 ht;have f:=Q00 r;have r1:=(r.cell (p:=⟨N,l+k,none⟩) z).trans a;have r2:=(r.cell (p:=⟨O,m+k,none⟩) A).trans b;clear ht r T U
     by_cases hql:q < ra.length
     ·cases t with
      |true=>
       obtain⟨Y,G⟩:=v.out.1 rfl
       have B:q < rb.length:=by omega
       have z1:(q:Int) < (ra.length:Int):=by omega
       have z2:(q:Int) < (rb.length:Int):=by omega
       have HL':=Q00 Y;have HTk':=Q00 G
       rcases C with C|⟨g1,f1,rfl,P,c⟩
       ·subst C;simp at hql
       rcases D with D|⟨g2,f2,rfl,R,d⟩
       ·subst D;simp at B
       have y1:wr.cell? ⟨g1,f1+q,none⟩=some (.int .i64 (ra.getD q 0)):=(f.out.cell (p:=⟨g1,f1+q,none⟩) P).trans (RdL.int c q hql);have y2:wr.cell? ⟨g2,f2+q,none⟩=some (.int .i64 (rb.getD q 0)):=(f.out.cell (p:=⟨g2,f2+q,none⟩) R).trans (RdL.int d q B);have t1:=Q00 (Q1c ra q hql);have t2:=Q00 (Q1c rb q B);clear c d v Y G a b;generalize ra.getD q 0=x at *;generalize rb.getD q 0=y at *;go_wp2
       go_quiet (fail)
       go_wp2;go_roundw
       case rel=>
        refine⟨q+1,_,by omega,by go_num,rfl, ?_,below_drewN f.out _⟩;rw[t1.out,t2.out,HTk'.out,List.append_cancel_left_eq];simp[HL'.out]
       case measure=>simp[intOf];omega
      |false=>
       have E:Hid (ra≠rb):=fun h=>by
        have:=v.out.2 ⟨by rw[h],by rw[h]⟩
        cases this
       have F:=Q00 (X.out E.out)
       have z1:(q:Int) < (ra.length:Int):=by omega
       clear v a b;go_wp2;go_roundw
       case rel=>exact⟨k+1,by omega,by go_num,by rw[<-F.out],f.out⟩
       case measure=>simp[intOf];omega
     ·have eq:q=ra.length:=by omega
      subst eq
      have z1:¬(ra.length:Int) < (ra.length:Int):=by omega
      cases t with
      |true=>
       have HY:Hid (ra=rb):=by
        obtain⟨h1,h2⟩:=v.out.1 rfl;rw[List.take_of_length_le (Kaq _),List.take_of_length_le (by omega)]at h2;exact h2
       have F:=Q00 (HS.out HY.out);clear v a b;go_wp2;go_roundw
       case rel=>exact⟨k+1,by omega,by go_num,by rw[F.out],f.out⟩
       case measure=>simp[intOf];omega
      |false=>
       have E:Hid (ra≠rb):=fun h=>by
        have:=v.out.2 ⟨by rw[h],by rw[h]⟩
        cases this
       have F:=Q00 (X.out E.out);clear v a b;go_wp2;go_roundw
       case rel=>exact⟨k+1,by omega,by go_num,by rw[<-F.out],f.out⟩
       case measure=>simp[intOf];omega
   ·have e:k=8:=by omega
    subst e
    have nl:¬(8:Int) < (aa.length:Int):=by omega
    go_wp2;go_ret;exact⟨Q0O HE.out,g⟩
 ·have E:=Q00 (Qao h8)
  by_cases h1:aa.length=8
  ·have h2:¬bb.length=8:=fun h=>h8 ⟨h1,h⟩
   have n2:((bb.length:Int) !=8)=true:=by simp;omega
   go_enter Tryz.func178,Tryz.ntmps178;go_wp2;go_ret;exact⟨Q0O E.out,KBq⟩
  ·have n1:((aa.length:Int) !=8)=true:=by simp;omega
   go_enter Tryz.func178,Tryz.ntmps178;go_wp2;go_ret;exact⟨Q0O E.out,KBq⟩
abbrev Q8x (a p:Int):Value:=.agg #[.int .i64 a,.int .i64 p]
theorem Qdv (n:Nat) (a p:Int) (w:World) (d:0 < n) (r:n<=1048576) (c:Q0g a p=true):
  Calls Tryz.prog 210 #[.int .i64 n,Q8x a p] w fun e j=>e=.returned (.int .i64 (Q20 n a p))/\Below w.heap.size w j:=by
 have h:Below w.heap.size w w:=KBq;have q:=Q82 d c;have i:=Q3c d a p;have g:=Q2t.1 c
 have b:¬((n:Int)=0):=by omega
 have f:((n:Int)==0)=false:=by simpa using b
 obtain⟨k,h2,l,m⟩:=g;go_enter Tryz.func210,Tryz.ntmps210;go_wp2;go_ret;exact⟨rfl,by(repeat (first|with_reducible (first|exact h|exact KBq|refine KHq ?_|refine below_drewN ?_ _|refine KOq ?_ ?_ _|refine KNq ?_ ?_ _)|(focus (simp;first|done|omega))|omega))⟩
theorem Qc5 (o:Option Addr) (c:Nat) (l:List Sl) (a p:Int) (w:World) (G:RdS w.heap.size w o l) (D:0 < l.length) (hl:l.length<=1048576) (hf:Q0g a p=true):
  Calls Tryz.prog 168 #[tab (.slice o l.length c),Q8x a p] w fun e w'=>e=.returned (.tuple #[.int .i64 (Q2x l a p).1,.bool (Q2x l a p).2])/\Below w.heap.size w w':=by
 rcases G with G|⟨b,O,rfl,x,n⟩
 ·subst G;simp at D
 have y:Below w.heap.size w w:=KBq;have U:=Q00 n;clear n;go_enter Tryz.func168,Tryz.ntmps168
 go_wp2_with fail;go_at_call 210;refine(Qdv l.length a p _ D hl hf).mono ?_;rintro e f ⟨rfl,m⟩;obtain⟨t,H⟩:=Q0F m;have E:w.heap.size < f.heap.size:=(by have L:=m.size;(try simp at L);omega);have v:w.heap.size+1 < f.heap.size:=(by have L:=m.size;(try simp at L);omega);have y:Below w.heap.size w f:=(by refine Below.trans ?_ (m.mono (by have hs:=y.size;(try simp) <;> omega));(repeat (first|with_reducible (first|exact y|exact KBq|refine KHq ?_|refine below_drewN ?_ _|refine KOq ?_ ?_ _|refine KNq ?_ ?_ _)|(focus (simp;first|done|omega))|omega)))
 have z:f.cell? ⟨w.heap.size,0,none⟩=some (.slice (some ⟨b,O,none⟩) l.length c):=by rw[t _ _ (by(try simp) <;> omega)];simp[go_sem]
 have A:f.cell? ⟨w.heap.size+1,0,none⟩=some (.int .i64 a):=by rw[t _ _ (by(try simp) <;> omega)];simp[go_sem]
 have B:f.cell? ⟨w.heap.size+1,1,none⟩=some (.int .i64 p):=by rw[t _ _ (by(try simp) <;> omega)];simp[go_sem]
 have T:=Q00 y;clear y t H m;have hh:=Q3c D a p;have Y:=Q00 (show Q48 l a p l.length (Q20 l.length a p)=Q2x l a p from rfl);generalize Q20 l.length a p=h at *;go_wp2
 go_loopw [7,8] (fun i k wr=> ∃(M N:Nat),N<=l.length/\M < l.length/\i=.int .i64 M/\k=.int .i64 N/\Hid (Q48 l a p (l.length - N) M=Q2x l a p)/\Hid (Below f.heap.size f wr))
  (fun _ k _=>l.length - (intOf k).toNat)
 case atStart=>exact⟨h,0,Kcq _,hh,rfl,rfl,Y,KBq⟩
 case round=>
  obtain⟨i,k,hk,hi,rfl,rfl,r,j⟩:=hrel;have d0:=bKq0v0v0 j.out z E;have d1:=bKq0v0v0 j.out A v;have d2:=bKq0v0v0 j.out B v;have g:=Q00 (T.out.trans (j.out.mono T.out.size))
  by_cases hlt:k < l.length
  ·obtain⟨s,d⟩:∃s,l.getD i sl0=s:=⟨_,rfl⟩
   have q:=RdL.slot (C:=w.heap.size) U.out i hi;rw[d]at q;have Z:=bKq0v0v0 g.out q.1 x;have e1:=bKq0v0v0 g.out q.2.1 x;have e2:=bKq0v0v0 g.out q.2.2.1 x
   have aa:(i:Int) < (l.length:Int):=by omega
   have ab:(k:Int) < (l.length:Int):=by omega
   have V:((l.length:Int)==0)=false:=beq_eq_false_iff_ne.2 (by omega);have hm:=Q9Q l.length i
   have F:l.length - k=(l.length - (k+1))+1:=by omega
   rw[F]at r;obtain⟨su,P,R,sv,st⟩:=s;simp only at Z e1 e2;clear q z A B U
   cases su with
   |false=>
    have u:=Q00 (r.out.symm.trans (Q55 (by rw[d])));clear r d F;go_wp2
    go_ret2
    exact⟨by rw[u.out];rfl,g.out⟩
   |true=>
    by_cases hq:P=a/\R=p
    ·have u:=Q00 (r.out.symm.trans (Q75 (by rw[d]) (by rw[d];exact hq.1) (by rw[d];exact hq.2)))
     obtain⟨rfl,rfl⟩:=hq;clear r d F;go_wp2
     go_region
     go_wp2
     go_ret2
     exact⟨by rw[u.out];rfl,KHq g.out⟩
    ·have u:=Q00 (r.out.symm.trans (Q5r (by rw[d]) (by rw[d];exact hq))).symm
     clear r d F
     have X:(k+1<=l.length):=by omega
     by_cases hq1:P=a
     ·subst hq1
      have I:¬R=p:=fun e=>hq ⟨rfl,e⟩
      have J:(R==p)=false:=beq_eq_false_iff_ne.2 I;clear hq;go_wp2
      go_region
      go_wp2;go_roundw
      case rel=>exact⟨(i+1) % l.length,k+1,X,Q6N D i,by go_num,by go_num,u,KHq j.out⟩
      case measure=>simp[intOf];omega
     ·have J:(P==a)=false:=beq_eq_false_iff_ne.2 hq1
      clear hq;go_wp2
      go_region
      go_wp2;go_roundw
      case rel=>exact⟨(i+1) % l.length,k+1,X,Q6N D i,by go_num,by go_num,u,KHq j.out⟩
      case measure=>simp[intOf];omega
  ·have e:k=l.length:=by omega
   subst e;have u:=Q00 (show Q2x l a p=(-1,false)from r.out.symm.trans (by rw[Nat.sub_self];rfl));clear r;go_wp2
   go_ret2
   exact⟨by rw[u.out];rfl,g.out⟩
theorem Q2j (o:Option Addr) (c:Nat) (l:List Sl) (w:World) (hR:RdS w.heap.size w o l) (hl:l.length<=1048576):
  Calls Tryz.prog 126 #[tab (.slice o l.length c)] w fun e w'=>e=.returned (.bool (Q0k l))/\Below w.heap.size w w':=by
 have F:Below w.heap.size w w:=KBq
 by_cases hlen:1<=l.length/\l.length<=16
 ·obtain⟨hn,aa⟩:=hlen
  rcases hR with hR|⟨b,g,rfl,q,z⟩
  ·subst hR;simp at hn
  have Z:=Q00 z
  have i1:¬((l.length:Int) < 1):=by omega
  have i2:¬(16 < (l.length:Int)):=by omega
  have h0:Hid (Below w.heap.size w (w.alloc (.cells #[.slice (some ⟨b,g,none⟩) l.length c] 32))):=F.alloc (Kaq _) _
  have ac:Hid ((w.alloc (.cells #[.slice (some ⟨b,g,none⟩) l.length c] 32)).cell? ⟨w.heap.size,0,none⟩=some (.slice (some ⟨b,g,none⟩) l.length c)):=by simp[Q00,go_sem,Hid]
  have ad:w.heap.size < (w.alloc (.cells #[.slice (some ⟨b,g,none⟩) l.length c] 32)).heap.size:=by simp
  clear z F;go_enter Tryz.func126,Tryz.ntmps126;go_wp2;generalize w.alloc (.cells #[.slice (some ⟨b,g,none⟩) l.length c] 32)=w0 at *
  go_loopw [3] (fun i wr=> ∃k:Nat,k<=l.length/\i=.int .i64 k/\Hid (QhU l k)/\Hid (Below w0.heap.size w0 wr))
   (fun i _=>l.length - (intOf i).toNat)
  case atStart=>exact⟨0,Kcq _,rfl,fun i hi=>absurd hi (KMq _),KBq⟩
  case round=>
   obtain⟨k,hk,rfl,B,u⟩:=hrel;have d0:=bKq0v0v0 u.out ac.out ad;have m:=Q00 (h0.out.trans (u.out.mono h0.out.size));have ag:w0.heap.size<=wr.heap.size:=u.out.size
   by_cases hlt:k < l.length
   ·obtain⟨s,I⟩:∃s,l.getD k sl0=s:=⟨_,rfl⟩
    have r:=RdL.slot (C:=w.heap.size) Z.out k hlt;rw[I]at r;have e0:=bKq0v0v0 m.out r.1 q;have e1:=bKq0v0v0 m.out r.2.1 q;have e2:=bKq0v0v0 m.out r.2.2.1 q;have e3:=bKq0v0v0 m.out r.2.2.2.1 q;have e4:=bKq0v0v0 m.out r.2.2.2.2 q
    have af:(k:Int) < (l.length:Int):=by omega
    have y:=Q00 I;clear r I;obtain⟨su,L,M,P,st⟩:=s;simp only at e0 e1 e2 e3 e4
    cases su with
    |false=>
     by_cases hz:L=0/\M=0/\P=0/\st=0
     ·obtain⟨rfl,rfl,rfl,rfl⟩:=hz
      have HT:=Q00 (Q7Y B.out (Qdk (by rw[y.out]) ((QdB (by rw[y.out])).2 y.out)));clear B;go_wp2;go_roundw
      case rel=>exact⟨k+1,hlt,by go_num,HT,show Below _ _ _ by have F:=u.out;(repeat (first|with_reducible (first|exact F|exact KBq|refine KHq ?_|refine below_drewN ?_ _|refine KOq ?_ ?_ _|refine KNq ?_ ?_ _)|(focus (simp;first|done|omega))|omega))⟩
      case measure=>simp[intOf];omega
     ·have x:=Q00 (Q2k hlt (Q3N (by rw[y.out];simp[Q2a];intro O h2 h3 h4;exact hz ⟨O,h2,h3,h4⟩)))
      clear B;go_wp2
      all_goals go_ret
      all_goals exact⟨Q03 x.out,by have F:=m.out;(repeat (first|with_reducible (first|exact F|exact KBq|refine KHq ?_|refine below_drewN ?_ _|refine KOq ?_ ?_ _|refine KNq ?_ ?_ _)|(focus (simp;first|done|omega))|omega))⟩
    |true=>
     obtain⟨W1,G⟩:∃W,wr.alloc (.cells #[.bool true,.int .i64 L,.int .i64 M,.int .i64 P,.int .i64 st] 201)=W:=⟨_,rfl⟩
     have H:Hid (Below wr.heap.size wr W1):=by rw[<-G];exact KBq.alloc (Kaq _) _
     have d:=alz0v0v1 G;obtain⟨R,c1,c2,T,U⟩:=alc5v0v1 G;have c5:=bKq0v0v0 H.out d0 (show w.heap.size < wr.heap.size by omega)
     have J:w.heap.size < W1.heap.size:=by omega
     have h:=Q00 (m.out.trans (H.out.mono m.out.size));have N:=Q00 (u.out.trans (H.out.mono u.out.size));have t:=Q0s L M W1
     cases hfo:Q0g L M with
     |false=>
      have x:=Q00 (Q2k hlt (Q3N (by rw[y.out];simp[Q2a,hfo])));rw[hfo]at t;clear B hfo;go_wp2_with (go_at_call 64;refine t.mono ?_;rintro e w2 ⟨rfl,a⟩;have f:=Q00 (h.out.trans (a.mono h.out.size));have m0:=(a.cell (p:=⟨wr.heap.size,0,none⟩) d).trans R;have m2:=(a.cell (p:=⟨wr.heap.size,3,none⟩) d).trans T;have m3:=(a.cell (p:=⟨wr.heap.size,4,none⟩) d).trans U;clear a)
      all_goals go_ret
      all_goals exact⟨Q03 x.out,f.out⟩
     |true=>
      rw[hfo]at t
      by_cases hv:0<=P/\P<=100000/\0<=st/\st<=200000
      ·obtain⟨v1,v2,v3,v4⟩:=hv
       have g1:¬P < 0:=by omega
       have g2:¬100000 < P:=by omega
       have g3:¬st < 0:=by omega
       have g4:¬200000 < st:=by omega
       have HS:=Q00 ((Q8b (s:=l.getD k sl0) (by rw[y.out])).2 (by rw[y.out];exact⟨hfo,v1,v2,v3,v4⟩));have HF:=Q00 hfo;clear hfo v1 v2 v3 v4
       have D:=fun W hr=>Qc5 (some ⟨b,g,none⟩) c l L M W hr (by omega) hl HF.out
       by_cases hE:Q2x l L M=((k:Int),true)
       ·have HT:=Q00 (Q7Y B.out (Qda HS.out (by rw[y.out];exact hE)))
        rw[hE]at D;clear B hE
        go_wp2_with (first|(go_at_call 64;refine t.mono ?_;rintro e w2 ⟨rfl,a⟩;have f:=Q00 (h.out.trans (a.mono h.out.size));have A:=Q00 (N.out.trans (a.mono N.out.size));have m0:=(a.cell (p:=⟨wr.heap.size,0,none⟩) d).trans R;have m1:=(a.cell (p:=⟨wr.heap.size,1,none⟩) d).trans c1;have m4:=(a.cell (p:=⟨wr.heap.size,2,none⟩) d).trans c2;have m2:=(a.cell (p:=⟨wr.heap.size,3,none⟩) d).trans T;have m3:=(a.cell (p:=⟨wr.heap.size,4,none⟩) d).trans U;have m5:=(a.cell (p:=⟨w.heap.size,0,none⟩) J).trans c5;have Y:=a.size;clear a)|(go_at_call 168;refine(D _ (.inr ⟨b,g,rfl,by omega,fun i hi j X=>(f.out.cell (p:=⟨b,g+i * Q0u.k+j,none⟩) q).trans (Z.out i hi j X)⟩)).mono ?_;rintro e w3 ⟨rfl,n⟩;have v:=Q00 (A.out.trans (n.mono A.out.size));clear n))
        go_roundw
        case rel=>exact⟨k+1,hlt,by go_num,HT,v⟩
        case measure=>simp[intOf];omega
       ·have x:=Q00 (Q2k hlt (Qeg (by rw[y.out]) (by rw[y.out];exact hE)))
        generalize hEE:Q2x l L M=E at *;obtain⟨E1,E2⟩:=E
        have V:E2=true->¬E1=(k:Int):=fun O h2=>hE (by rw[O,h2])
        clear B hE hEE
        cases E2 with
        |false=>
         go_wp2_with (first|(go_at_call 64;refine t.mono ?_;rintro e w2 ⟨rfl,a⟩;have f:=Q00 (h.out.trans (a.mono h.out.size));have A:=Q00 (N.out.trans (a.mono N.out.size));have m0:=(a.cell (p:=⟨wr.heap.size,0,none⟩) d).trans R;have m1:=(a.cell (p:=⟨wr.heap.size,1,none⟩) d).trans c1;have m4:=(a.cell (p:=⟨wr.heap.size,2,none⟩) d).trans c2;have m2:=(a.cell (p:=⟨wr.heap.size,3,none⟩) d).trans T;have m3:=(a.cell (p:=⟨wr.heap.size,4,none⟩) d).trans U;have m5:=(a.cell (p:=⟨w.heap.size,0,none⟩) J).trans c5;have Y:=a.size;clear a)|(go_at_call 168;refine(D _ (.inr ⟨b,g,rfl,by omega,fun i hi j X=>(f.out.cell (p:=⟨b,g+i * Q0u.k+j,none⟩) q).trans (Z.out i hi j X)⟩)).mono ?_;rintro e w3 ⟨rfl,n⟩;have v:=Q00 (f.out.trans (n.mono f.out.size));clear n))
         go_ret;exact⟨Q03 x.out,v.out⟩
        |true=>
         have ab:=V rfl;have ae:(E1==(k:Int))=false:=beq_eq_false_iff_ne.2 ab;clear V
         go_wp2_with (first|(go_at_call 64;refine t.mono ?_;rintro e w2 ⟨rfl,a⟩;have f:=Q00 (h.out.trans (a.mono h.out.size));have A:=Q00 (N.out.trans (a.mono N.out.size));have m0:=(a.cell (p:=⟨wr.heap.size,0,none⟩) d).trans R;have m1:=(a.cell (p:=⟨wr.heap.size,1,none⟩) d).trans c1;have m4:=(a.cell (p:=⟨wr.heap.size,2,none⟩) d).trans c2;have m2:=(a.cell (p:=⟨wr.heap.size,3,none⟩) d).trans T;have m3:=(a.cell (p:=⟨wr.heap.size,4,none⟩) d).trans U;have m5:=(a.cell (p:=⟨w.heap.size,0,none⟩) J).trans c5;have Y:=a.size;clear a)|(go_at_call 168;refine(D _ (.inr ⟨b,g,rfl,by omega,fun i hi j X=>(f.out.cell (p:=⟨b,g+i * Q0u.k+j,none⟩) q).trans (Z.out i hi j X)⟩)).mono ?_;rintro e w3 ⟨rfl,n⟩;have v:=Q00 (f.out.trans (n.mono f.out.size));clear n))
         go_ret;exact⟨Q03 x.out,v.out⟩
      ·have x:=Q00 (Q2k hlt (Q3N (by rw[y.out];simp[Q2a,hfo];intro O h2 h3;exact Int.not_le.1 fun h4=>hv ⟨O,h2,h3,h4⟩)))
       have HV:=Q00 hv;clear B hfo hv;go_wp2_with (go_at_call 64;refine t.mono ?_;rintro e w2 ⟨rfl,a⟩;have f:=Q00 (h.out.trans (a.mono h.out.size));have m0:=(a.cell (p:=⟨wr.heap.size,0,none⟩) d).trans R;have m1:=(a.cell (p:=⟨wr.heap.size,1,none⟩) d).trans c1;have m4:=(a.cell (p:=⟨wr.heap.size,2,none⟩) d).trans c2;have m2:=(a.cell (p:=⟨wr.heap.size,3,none⟩) d).trans T;have m3:=(a.cell (p:=⟨wr.heap.size,4,none⟩) d).trans U;clear a)
       all_goals first|(go_ret;exact⟨Q03 x.out,f.out⟩)|(exfalso;apply HV.out;omega)|skip
   ·have e:k=l.length:=by omega
    subst e;have HY:=Q00 (Q9v hn aa B.out);go_wp2;go_ret;exact⟨Q03 HY.out,m.out⟩
 ·have x:=Q00 (Q5w hlen)
  by_cases O:(l.length:Int) < 1
  ·go_enter Tryz.func126,Tryz.ntmps126
   go_wp2;go_ret;exact⟨Q03 x.out,by(repeat (first|with_reducible (first|exact F|exact KBq|refine KHq ?_|refine below_drewN ?_ _|refine KOq ?_ ?_ _|refine KNq ?_ ?_ _)|(focus (simp;first|done|omega))|omega))⟩
  ·have h2:(16:Int) < l.length:=by omega
   go_enter Tryz.func126,Tryz.ntmps126;go_wp2;go_ret;exact⟨Q03 x.out,by(repeat (first|with_reducible (first|exact F|exact KBq|refine KHq ?_|refine below_drewN ?_ _|refine KOq ?_ ?_ _|refine KNq ?_ ?_ _)|(focus (simp;first|done|omega))|omega))⟩
end Go.Proofs.YteffhdcankkfkaaGreat
