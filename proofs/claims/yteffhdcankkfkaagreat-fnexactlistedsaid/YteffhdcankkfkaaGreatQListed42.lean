/- Several texts in one: SKI2, SKI3. -/
import Derived.Deep.Cut
import Derived.Test.YteffhdcankkfkaaGreatQListed40
namespace Go.Proofs.YteffhdcankkfkaaGreat
open Go.ChangeShapes Go.WideShapes Go.ChangeAt Go.RowKit Go.Joins
set_option linter.unusedVariables false
set_option linter.unusedSimpArgs false
set_option maxRecDepth 100000
set_option maxHeartbeats 40000000
theorem Q91 (k a b f s:Int) (o u:Option Addr) (cap x:Nat) (l:List Int) (g:List (Int × Int)) (pl st fa fp bk:Int) (w:World) (hR:Rd w o l) (ad:o=none->cap=0) (hl:l.length<=1048576) (hG:RdG w u g) (D:u=none->x=0) (bb:g.length<=1048576):
  Calls Tryz.prog 61 #[mlv k a b f s (.slice o l.length cap) (.slice u g.length x) pl st fa fp bk] w fun e w'=> ∃q p t r,e=.returned (mlv k a b f s (.slice q l.length p) (.slice t g.length r) pl st fa fp bk)/\ownB w' w.heap.size (.slice q l.length p) l/\ownG w' w.heap.size (.slice t g.length r) g/\Below w.heap.size w w':=by
 obtain⟨B,E⟩:∃W,(w.alloc (.cells #[.int .i64 k,.int .i64 a,.int .i64 b,.int .i64 f,.int .i64 s,.slice o l.length cap,.slice u g.length x,.int .i64 pl,.int .i64 st,.int .i64 fa,.int .i64 fp,.int .i64 bk] 113)).alloc (.cells #[.int .i64 0,.int .i64 0,.int .i64 0,.int .i64 0,.int .i64 0,.slice none 0 0,.slice none 0 0,.int .i64 0,.int .i64 0,.int .i64 0,.int .i64 0,.int .i64 0] 113)=W:=⟨_,rfl⟩;have G:=alb0v0v2 E
 have am:B.heap.size=w.heap.size+2:=by rw[<-E];simp
 have F:B.heap[w.heap.size]? =some (.cells #[.int .i64 k,.int .i64 a,.int .i64 b,.int .i64 f,.int .i64 s,.slice o l.length cap,.slice u g.length x,.int .i64 pl,.int .i64 st,.int .i64 fa,.int .i64 fp,.int .i64 bk] 113 (0,0)):=by
  rw[<-E]
  exact(Below.heap_alloc (w.alloc (.cells #[.int .i64 k,.int .i64 a,.int .i64 b,.int .i64 f,.int .i64 s,.slice o l.length cap,.slice u g.length x,.int .i64 pl,.int .i64 st,.int .i64 fa,.int .i64 fp,.int .i64 bk] 113)) (.cells #[.int .i64 0,.int .i64 0,.int .i64 0,.int .i64 0,.int .i64 0,.slice none 0 0,.slice none 0 0,.int .i64 0,.int .i64 0,.int .i64 0,.int .i64 0,.int .i64 0] 113) w.heap.size (by simp)).trans (World.alloc_heap_new w (.cells #[.int .i64 k,.int .i64 a,.int .i64 b,.int .i64 f,.int .i64 s,.slice o l.length cap,.slice u g.length x,.int .i64 pl,.int .i64 st,.int .i64 fa,.int .i64 fp,.int .i64 bk] 113))
 have rx:B.heap[w.heap.size+1]? =some (.cells #[.int .i64 0,.int .i64 0,.int .i64 0,.int .i64 0,.int .i64 0,.slice none 0 0,.slice none 0 0,.int .i64 0,.int .i64 0,.int .i64 0,.int .i64 0,.int .i64 0] 113 (0,0)):=by
  have:=World.alloc_heap_new (w.alloc (.cells #[.int .i64 k,.int .i64 a,.int .i64 b,.int .i64 f,.int .i64 s,.slice o l.length cap,.slice u g.length x,.int .i64 pl,.int .i64 st,.int .i64 fa,.int .i64 fp,.int .i64 bk] 113)) (.cells #[.int .i64 0,.int .i64 0,.int .i64 0,.int .i64 0,.int .i64 0,.slice none 0 0,.slice none 0 0,.int .i64 0,.int .i64 0,.int .i64 0,.int .i64 0,.int .i64 0] 113);rw[<-E]
  simpa only[World.size_alloc]using this
 have x1:B.cell? ⟨w.heap.size,1,none⟩=some (.int .i64 a):=Q01 F 1 _ rfl;have x2:B.cell? ⟨w.heap.size,2,none⟩=some (.int .i64 b):=Q01 F 2 _ rfl;have x3:B.cell? ⟨w.heap.size,3,none⟩=some (.int .i64 f):=Q01 F 3 _ rfl;have x4:B.cell? ⟨w.heap.size,4,none⟩=some (.int .i64 s):=Q01 F 4 _ rfl;have x5:B.cell? ⟨w.heap.size,5,none⟩=some (.slice o l.length cap):=Q01 F 5 _ rfl;have x6:B.cell? ⟨w.heap.size,6,none⟩=some (.slice u g.length x):=Q01 F 6 _ rfl;have x7:B.cell? ⟨w.heap.size,7,none⟩=some (.int .i64 pl):=Q01 F 7 _ rfl
 have x8:B.cell? ⟨w.heap.size,8,none⟩=some (.int .i64 st):=Q01 F 8 _ rfl;have HC:=Q00 (Q5M a b f s o u cap x l g pl st B (hR.kept G) ad hl (hG.kept G) D bb);have a6:=Q00 F;have a7:=Q00 rx;have aj:=Q00 G;have a8:=Q00 am;clear hR ad hG D F rx G am;go_enter Tryz.func61,Tryz.ntmps61;go_wp2_with fail;clear E;refine HC.out.mono ?_;rintro e n ⟨v1,v2,rfl,an,ao,C⟩;obtain⟨q,p,rfl,_⟩:=an.open;obtain⟨t,r,rfl,_⟩:=ao.open;have am:=a8.out;have j:=(C.block w.heap.size (by omega)).trans a6.out;have a4:=(C.block (w.heap.size+1) (by omega)).trans a7.out
 have bh:=C.size;have a5:=Q00 (aj.out.trans (C.mono aj.out.size));have a9:=Q00 (InRow.of an);have ba:=Q00 (InRow.of ao);clear x1 x2 x3 x4 x5 x6 x7 x8 HC an ao C aj;have x1:n.cell? ⟨w.heap.size,1,none⟩=some (.int .i64 a):=Q01 j 1 _ rfl;have f1:n.frozen? ⟨w.heap.size,1,none⟩=false:=Q09 j 1;have x2:n.cell? ⟨w.heap.size,2,none⟩=some (.int .i64 b):=Q01 j 2 _ rfl;have f2:n.frozen? ⟨w.heap.size,2,none⟩=false:=Q09 j 2;have x3:n.cell? ⟨w.heap.size,3,none⟩=some (.int .i64 f):=Q01 j 3 _ rfl;have f3:n.frozen? ⟨w.heap.size,3,none⟩=false:=Q09 j 3
 have x4:n.cell? ⟨w.heap.size,4,none⟩=some (.int .i64 s):=Q01 j 4 _ rfl;have f4:n.frozen? ⟨w.heap.size,4,none⟩=false:=Q09 j 4;have x5:n.cell? ⟨w.heap.size,5,none⟩=some (.slice o l.length cap):=Q01 j 5 _ rfl;have f5:n.frozen? ⟨w.heap.size,5,none⟩=false:=Q09 j 5;have x6:n.cell? ⟨w.heap.size,6,none⟩=some (.slice u g.length x):=Q01 j 6 _ rfl;have f6:n.frozen? ⟨w.heap.size,6,none⟩=false:=Q09 j 6;have x7:n.cell? ⟨w.heap.size,7,none⟩=some (.int .i64 pl):=Q01 j 7 _ rfl;have f7:n.frozen? ⟨w.heap.size,7,none⟩=false:=Q09 j 7
 have x8:n.cell? ⟨w.heap.size,8,none⟩=some (.int .i64 st):=Q01 j 8 _ rfl;have f8:n.frozen? ⟨w.heap.size,8,none⟩=false:=Q09 j 8;have aC:Stp (w.heap.size) (w.heap.size+1) n n:=Stp.refl _;have ar:=j;obtain⟨m1,H⟩:∃W,n.setCell ⟨w.heap.size,1,none⟩ (.int .i64 a)=W:=⟨_,rfl⟩
 have au:m1.heap[w.heap.size]? =some (.cells #[.int .i64 k,.int .i64 a,.int .i64 b,.int .i64 f,.int .i64 s,.slice o l.length cap,.slice u g.length x,.int .i64 pl,.int .i64 st,.int .i64 fa,.int .i64 fp,.int .i64 bk] 113 (0,0)):=by rw[<-H];exact Q0t _ (w.heap.size) 1 _ _ (.int .i64 a) ar
 have aD:Stp (w.heap.size) (w.heap.size+1) n m1:=by rw[<-H];exact aC.trans (Q07 _ (w.heap.size) 1 _)
 clear ar aC;obtain⟨m2,I⟩:∃W,m1.setCell ⟨w.heap.size,2,none⟩ (.int .i64 b)=W:=⟨_,rfl⟩
 have av:m2.heap[w.heap.size]? =some (.cells #[.int .i64 k,.int .i64 a,.int .i64 b,.int .i64 f,.int .i64 s,.slice o l.length cap,.slice u g.length x,.int .i64 pl,.int .i64 st,.int .i64 fa,.int .i64 fp,.int .i64 bk] 113 (0,0)):=by rw[<-I];exact Q0t _ (w.heap.size) 2 _ _ (.int .i64 b) au
 have aE:Stp (w.heap.size) (w.heap.size+1) n m2:=by rw[<-I];exact aD.trans (Q07 _ (w.heap.size) 2 _)
 clear au aD;obtain⟨m3,J⟩:∃W,m2.setCell ⟨w.heap.size,3,none⟩ (.int .i64 f)=W:=⟨_,rfl⟩
 have aw:m3.heap[w.heap.size]? =some (.cells #[.int .i64 k,.int .i64 a,.int .i64 b,.int .i64 f,.int .i64 s,.slice o l.length cap,.slice u g.length x,.int .i64 pl,.int .i64 st,.int .i64 fa,.int .i64 fp,.int .i64 bk] 113 (0,0)):=by rw[<-J];exact Q0t _ (w.heap.size) 3 _ _ (.int .i64 f) av
 have aF:Stp (w.heap.size) (w.heap.size+1) n m3:=by rw[<-J];exact aE.trans (Q07 _ (w.heap.size) 3 _)
 clear av aE;obtain⟨m4,L⟩:∃W,m3.setCell ⟨w.heap.size,4,none⟩ (.int .i64 s)=W:=⟨_,rfl⟩
 have ax:m4.heap[w.heap.size]? =some (.cells #[.int .i64 k,.int .i64 a,.int .i64 b,.int .i64 f,.int .i64 s,.slice o l.length cap,.slice u g.length x,.int .i64 pl,.int .i64 st,.int .i64 fa,.int .i64 fp,.int .i64 bk] 113 (0,0)):=by rw[<-L];exact Q0t _ (w.heap.size) 4 _ _ (.int .i64 s) aw
 have aG:Stp (w.heap.size) (w.heap.size+1) n m4:=by rw[<-L];exact aF.trans (Q07 _ (w.heap.size) 4 _)
 clear aw aF;obtain⟨m5,M⟩:∃W,m4.setCell ⟨w.heap.size,5,none⟩ (.slice q l.length p)=W:=⟨_,rfl⟩
 have ay:m5.heap[w.heap.size]? =some (.cells #[.int .i64 k,.int .i64 a,.int .i64 b,.int .i64 f,.int .i64 s,.slice q l.length p,.slice u g.length x,.int .i64 pl,.int .i64 st,.int .i64 fa,.int .i64 fp,.int .i64 bk] 113 (0,0)):=by rw[<-M];exact Q0t _ (w.heap.size) 5 _ _ (.slice q l.length p) ax
 have aH:Stp (w.heap.size) (w.heap.size+1) n m5:=by rw[<-M];exact aG.trans (Q07 _ (w.heap.size) 5 _)
 clear ax aG;obtain⟨m6,N⟩:∃W,m5.setCell ⟨w.heap.size,6,none⟩ (.slice t g.length r)=W:=⟨_,rfl⟩
 have az:m6.heap[w.heap.size]? =some (.cells #[.int .i64 k,.int .i64 a,.int .i64 b,.int .i64 f,.int .i64 s,.slice q l.length p,.slice t g.length r,.int .i64 pl,.int .i64 st,.int .i64 fa,.int .i64 fp,.int .i64 bk] 113 (0,0)):=by rw[<-N];exact Q0t _ (w.heap.size) 6 _ _ (.slice t g.length r) ay
 have aI:Stp (w.heap.size) (w.heap.size+1) n m6:=by rw[<-N];exact aH.trans (Q07 _ (w.heap.size) 6 _)
 clear ay aH;obtain⟨m7,O⟩:∃W,m6.setCell ⟨w.heap.size,7,none⟩ (.int .i64 pl)=W:=⟨_,rfl⟩
 have aA:m7.heap[w.heap.size]? =some (.cells #[.int .i64 k,.int .i64 a,.int .i64 b,.int .i64 f,.int .i64 s,.slice q l.length p,.slice t g.length r,.int .i64 pl,.int .i64 st,.int .i64 fa,.int .i64 fp,.int .i64 bk] 113 (0,0)):=by rw[<-O];exact Q0t _ (w.heap.size) 7 _ _ (.int .i64 pl) az
 have aJ:Stp (w.heap.size) (w.heap.size+1) n m7:=by rw[<-O];exact aI.trans (Q07 _ (w.heap.size) 7 _)
 clear az aI;obtain⟨d,P⟩:∃W,m7.setCell ⟨w.heap.size,8,none⟩ (.int .i64 st)=W:=⟨_,rfl⟩
 have aB:d.heap[w.heap.size]? =some (.cells #[.int .i64 k,.int .i64 a,.int .i64 b,.int .i64 f,.int .i64 s,.slice q l.length p,.slice t g.length r,.int .i64 pl,.int .i64 st,.int .i64 fa,.int .i64 fp,.int .i64 bk] 113 (0,0)):=by rw[<-P];exact Q0t _ (w.heap.size) 8 _ _ (.int .i64 st) aA
 have R:Stp (w.heap.size) (w.heap.size+1) n d:=by rw[<-P];exact aJ.trans (Q07 _ (w.heap.size) 8 _)
 clear aA aJ
 have bc:((((((((n.setCell ⟨w.heap.size,1,none⟩ (.int .i64 a)).setCell ⟨w.heap.size,2,none⟩ (.int .i64 b)).setCell ⟨w.heap.size,3,none⟩ (.int .i64 f)).setCell ⟨w.heap.size,4,none⟩ (.int .i64 s)).setCell ⟨w.heap.size,5,none⟩ (.slice q l.length p)).setCell ⟨w.heap.size,6,none⟩ (.slice t g.length r)).setCell ⟨w.heap.size,7,none⟩ (.int .i64 pl)).setCell ⟨w.heap.size,8,none⟩ (.int .i64 st))=d:=by rw[H,I,J,L,M,N,O,P]
 clear P O N M L J I H;have ak:=Q00 R;have i:=Q00 aB;have c:=Q00 ((R.block (w.heap.size+1) (by omega) (by omega)).trans a4);have bi:=R.size;clear R aB j a4;go_upto_region 2 with fail;clear x1 f1 x2 f2 x3 f3 x4 f4 x5 f5 x6 f6 x7 f7 x8 f8;clear bc;have y0:d.cell? ⟨w.heap.size,0,none⟩=some (.int .i64 k):=Q01 i.out 0 _ rfl;have y1:d.cell? ⟨w.heap.size,1,none⟩=some (.int .i64 a):=Q01 i.out 1 _ rfl;have y2:d.cell? ⟨w.heap.size,2,none⟩=some (.int .i64 b):=Q01 i.out 2 _ rfl;have y3:d.cell? ⟨w.heap.size,3,none⟩=some (.int .i64 f):=Q01 i.out 3 _ rfl
 have y4:d.cell? ⟨w.heap.size,4,none⟩=some (.int .i64 s):=Q01 i.out 4 _ rfl;have y5:d.cell? ⟨w.heap.size,5,none⟩=some (.slice q l.length p):=Q01 i.out 5 _ rfl;have y6:d.cell? ⟨w.heap.size,6,none⟩=some (.slice t g.length r):=Q01 i.out 6 _ rfl;have y7:d.cell? ⟨w.heap.size,7,none⟩=some (.int .i64 pl):=Q01 i.out 7 _ rfl;have y8:d.cell? ⟨w.heap.size,8,none⟩=some (.int .i64 st):=Q01 i.out 8 _ rfl;have y9:d.cell? ⟨w.heap.size,9,none⟩=some (.int .i64 fa):=Q01 i.out 9 _ rfl;have bl:d.cell? ⟨w.heap.size,10,none⟩=some (.int .i64 fp):=Q01 i.out 10 _ rfl
 have bm:d.cell? ⟨w.heap.size,11,none⟩=some (.int .i64 bk):=Q01 i.out 11 _ rfl;have u0:d.cell? ⟨w.heap.size+1,0,none⟩=some (.int .i64 0):=Q01 c.out 0 _ rfl;have g0:d.frozen? ⟨w.heap.size+1,0,none⟩=false:=Q09 c.out 0;have u1:d.cell? ⟨w.heap.size+1,1,none⟩=some (.int .i64 0):=Q01 c.out 1 _ rfl;have g1:d.frozen? ⟨w.heap.size+1,1,none⟩=false:=Q09 c.out 1;have u2:d.cell? ⟨w.heap.size+1,2,none⟩=some (.int .i64 0):=Q01 c.out 2 _ rfl;have g2:d.frozen? ⟨w.heap.size+1,2,none⟩=false:=Q09 c.out 2;have u3:d.cell? ⟨w.heap.size+1,3,none⟩=some (.int .i64 0):=Q01 c.out 3 _ rfl
 have g3:d.frozen? ⟨w.heap.size+1,3,none⟩=false:=Q09 c.out 3;have u4:d.cell? ⟨w.heap.size+1,4,none⟩=some (.int .i64 0):=Q01 c.out 4 _ rfl;have g4:d.frozen? ⟨w.heap.size+1,4,none⟩=false:=Q09 c.out 4;have u5:d.cell? ⟨w.heap.size+1,5,none⟩=some (.slice none 0 0):=Q01 c.out 5 _ rfl;have g5:d.frozen? ⟨w.heap.size+1,5,none⟩=false:=Q09 c.out 5;have u6:d.cell? ⟨w.heap.size+1,6,none⟩=some (.slice none 0 0):=Q01 c.out 6 _ rfl;have g6:d.frozen? ⟨w.heap.size+1,6,none⟩=false:=Q09 c.out 6;have u7:d.cell? ⟨w.heap.size+1,7,none⟩=some (.int .i64 0):=Q01 c.out 7 _ rfl
 have g7:d.frozen? ⟨w.heap.size+1,7,none⟩=false:=Q09 c.out 7;have u8:d.cell? ⟨w.heap.size+1,8,none⟩=some (.int .i64 0):=Q01 c.out 8 _ rfl;have g8:d.frozen? ⟨w.heap.size+1,8,none⟩=false:=Q09 c.out 8;have u9:d.cell? ⟨w.heap.size+1,9,none⟩=some (.int .i64 0):=Q01 c.out 9 _ rfl;have g9:d.frozen? ⟨w.heap.size+1,9,none⟩=false:=Q09 c.out 9;have u10:d.cell? ⟨w.heap.size+1,10,none⟩=some (.int .i64 0):=Q01 c.out 10 _ rfl;have bf:d.frozen? ⟨w.heap.size+1,10,none⟩=false:=Q09 c.out 10;have u11:d.cell? ⟨w.heap.size+1,11,none⟩=some (.int .i64 0):=Q01 c.out 11 _ rfl
 have bg:d.frozen? ⟨w.heap.size+1,11,none⟩=false:=Q09 c.out 11;have aU:Stp (w.heap.size+1) (w.heap.size+1+1) d d:=Stp.refl _;have aK:=c.out;obtain⟨n1,T⟩:∃W,d.setCell ⟨w.heap.size+1,0,none⟩ (.int .i64 k)=W:=⟨_,rfl⟩
 have aL:n1.heap[w.heap.size+1]? =some (.cells #[.int .i64 k,.int .i64 0,.int .i64 0,.int .i64 0,.int .i64 0,.slice none 0 0,.slice none 0 0,.int .i64 0,.int .i64 0,.int .i64 0,.int .i64 0,.int .i64 0] 113 (0,0)):=by rw[<-T];exact Q0t _ (w.heap.size+1) 0 _ _ (.int .i64 k) aK
 have aV:Stp (w.heap.size+1) (w.heap.size+1+1) d n1:=by rw[<-T];exact aU.trans (Q07 _ (w.heap.size+1) 0 _)
 clear aK aU;obtain⟨n2,U⟩:∃W,n1.setCell ⟨w.heap.size+1,1,none⟩ (.int .i64 a)=W:=⟨_,rfl⟩
 have aM:n2.heap[w.heap.size+1]? =some (.cells #[.int .i64 k,.int .i64 a,.int .i64 0,.int .i64 0,.int .i64 0,.slice none 0 0,.slice none 0 0,.int .i64 0,.int .i64 0,.int .i64 0,.int .i64 0,.int .i64 0] 113 (0,0)):=by rw[<-U];exact Q0t _ (w.heap.size+1) 1 _ _ (.int .i64 a) aL
 have aW:Stp (w.heap.size+1) (w.heap.size+1+1) d n2:=by rw[<-U];exact aV.trans (Q07 _ (w.heap.size+1) 1 _)
 clear aL aV;obtain⟨n3,V⟩:∃W,n2.setCell ⟨w.heap.size+1,2,none⟩ (.int .i64 b)=W:=⟨_,rfl⟩
 have aN:n3.heap[w.heap.size+1]? =some (.cells #[.int .i64 k,.int .i64 a,.int .i64 b,.int .i64 0,.int .i64 0,.slice none 0 0,.slice none 0 0,.int .i64 0,.int .i64 0,.int .i64 0,.int .i64 0,.int .i64 0] 113 (0,0)):=by rw[<-V];exact Q0t _ (w.heap.size+1) 2 _ _ (.int .i64 b) aM
 have aX:Stp (w.heap.size+1) (w.heap.size+1+1) d n3:=by rw[<-V];exact aW.trans (Q07 _ (w.heap.size+1) 2 _)
 clear aM aW;obtain⟨n4,X⟩:∃W,n3.setCell ⟨w.heap.size+1,3,none⟩ (.int .i64 f)=W:=⟨_,rfl⟩
 have aO:n4.heap[w.heap.size+1]? =some (.cells #[.int .i64 k,.int .i64 a,.int .i64 b,.int .i64 f,.int .i64 0,.slice none 0 0,.slice none 0 0,.int .i64 0,.int .i64 0,.int .i64 0,.int .i64 0,.int .i64 0] 113 (0,0)):=by rw[<-X];exact Q0t _ (w.heap.size+1) 3 _ _ (.int .i64 f) aN
 have aY:Stp (w.heap.size+1) (w.heap.size+1+1) d n4:=by rw[<-X];exact aX.trans (Q07 _ (w.heap.size+1) 3 _)
 clear aN aX;obtain⟨n5,Y⟩:∃W,n4.setCell ⟨w.heap.size+1,4,none⟩ (.int .i64 s)=W:=⟨_,rfl⟩
 have aP:n5.heap[w.heap.size+1]? =some (.cells #[.int .i64 k,.int .i64 a,.int .i64 b,.int .i64 f,.int .i64 s,.slice none 0 0,.slice none 0 0,.int .i64 0,.int .i64 0,.int .i64 0,.int .i64 0,.int .i64 0] 113 (0,0)):=by rw[<-Y];exact Q0t _ (w.heap.size+1) 4 _ _ (.int .i64 s) aO
 have aZ:Stp (w.heap.size+1) (w.heap.size+1+1) d n5:=by rw[<-Y];exact aY.trans (Q07 _ (w.heap.size+1) 4 _)
 clear aO aY;obtain⟨n6,Z⟩:∃W,n5.setCell ⟨w.heap.size+1,5,none⟩ (.slice q l.length p)=W:=⟨_,rfl⟩
 have aQ:n6.heap[w.heap.size+1]? =some (.cells #[.int .i64 k,.int .i64 a,.int .i64 b,.int .i64 f,.int .i64 s,.slice q l.length p,.slice none 0 0,.int .i64 0,.int .i64 0,.int .i64 0,.int .i64 0,.int .i64 0] 113 (0,0)):=by rw[<-Z];exact Q0t _ (w.heap.size+1) 5 _ _ (.slice q l.length p) aP
 have a0:Stp (w.heap.size+1) (w.heap.size+1+1) d n6:=by rw[<-Z];exact aZ.trans (Q07 _ (w.heap.size+1) 5 _)
 clear aP aZ;obtain⟨n7,aa⟩:∃W,n6.setCell ⟨w.heap.size+1,6,none⟩ (.slice t g.length r)=W:=⟨_,rfl⟩
 have aR:n7.heap[w.heap.size+1]? =some (.cells #[.int .i64 k,.int .i64 a,.int .i64 b,.int .i64 f,.int .i64 s,.slice q l.length p,.slice t g.length r,.int .i64 0,.int .i64 0,.int .i64 0,.int .i64 0,.int .i64 0] 113 (0,0)):=by rw[<-aa];exact Q0t _ (w.heap.size+1) 6 _ _ (.slice t g.length r) aQ
 have a1:Stp (w.heap.size+1) (w.heap.size+1+1) d n7:=by rw[<-aa];exact a0.trans (Q07 _ (w.heap.size+1) 6 _)
 clear aQ a0;obtain⟨n8,ab⟩:∃W,n7.setCell ⟨w.heap.size+1,7,none⟩ (.int .i64 pl)=W:=⟨_,rfl⟩
 have aS:n8.heap[w.heap.size+1]? =some (.cells #[.int .i64 k,.int .i64 a,.int .i64 b,.int .i64 f,.int .i64 s,.slice q l.length p,.slice t g.length r,.int .i64 pl,.int .i64 0,.int .i64 0,.int .i64 0,.int .i64 0] 113 (0,0)):=by rw[<-ab];exact Q0t _ (w.heap.size+1) 7 _ _ (.int .i64 pl) aR
 have a2:Stp (w.heap.size+1) (w.heap.size+1+1) d n8:=by rw[<-ab];exact a1.trans (Q07 _ (w.heap.size+1) 7 _)
 clear aR a1;obtain⟨n9,ac⟩:∃W,n8.setCell ⟨w.heap.size+1,8,none⟩ (.int .i64 st)=W:=⟨_,rfl⟩
 have aT:n9.heap[w.heap.size+1]? =some (.cells #[.int .i64 k,.int .i64 a,.int .i64 b,.int .i64 f,.int .i64 s,.slice q l.length p,.slice t g.length r,.int .i64 pl,.int .i64 st,.int .i64 0,.int .i64 0,.int .i64 0] 113 (0,0)):=by rw[<-ac];exact Q0t _ (w.heap.size+1) 8 _ _ (.int .i64 st) aS
 have a3:Stp (w.heap.size+1) (w.heap.size+1+1) d n9:=by rw[<-ac];exact a2.trans (Q07 _ (w.heap.size+1) 8 _)
 clear aS a2;obtain⟨ap,y⟩:∃W,n9.setCell ⟨w.heap.size+1,9,none⟩ (.int .i64 fa)=W:=⟨_,rfl⟩
 have ae:ap.heap[w.heap.size+1]? =some (.cells #[.int .i64 k,.int .i64 a,.int .i64 b,.int .i64 f,.int .i64 s,.slice q l.length p,.slice t g.length r,.int .i64 pl,.int .i64 st,.int .i64 fa,.int .i64 0,.int .i64 0] 113 (0,0)):=by rw[<-y];exact Q0t _ (w.heap.size+1) 9 _ _ (.int .i64 fa) aT
 have ag:Stp (w.heap.size+1) (w.heap.size+1+1) d ap:=by rw[<-y];exact a3.trans (Q07 _ (w.heap.size+1) 9 _)
 clear aT a3;obtain⟨aq,z⟩:∃W,ap.setCell ⟨w.heap.size+1,10,none⟩ (.int .i64 fp)=W:=⟨_,rfl⟩
 have af:aq.heap[w.heap.size+1]? =some (.cells #[.int .i64 k,.int .i64 a,.int .i64 b,.int .i64 f,.int .i64 s,.slice q l.length p,.slice t g.length r,.int .i64 pl,.int .i64 st,.int .i64 fa,.int .i64 fp,.int .i64 0] 113 (0,0)):=by rw[<-z];exact Q0t _ (w.heap.size+1) 10 _ _ (.int .i64 fp) ae
 have ah:Stp (w.heap.size+1) (w.heap.size+1+1) d aq:=by rw[<-z];exact ag.trans (Q07 _ (w.heap.size+1) 10 _)
 clear ae ag;obtain⟨m,A⟩:∃W,aq.setCell ⟨w.heap.size+1,11,none⟩ (.int .i64 bk)=W:=⟨_,rfl⟩
 have h:m.heap[w.heap.size+1]? =some (.cells #[.int .i64 k,.int .i64 a,.int .i64 b,.int .i64 f,.int .i64 s,.slice q l.length p,.slice t g.length r,.int .i64 pl,.int .i64 st,.int .i64 fa,.int .i64 fp,.int .i64 bk] 113 (0,0)):=by rw[<-A];exact Q0t _ (w.heap.size+1) 11 _ _ (.int .i64 bk) af
 have ai:Stp (w.heap.size+1) (w.heap.size+1+1) d m:=by rw[<-A];exact ah.trans (Q07 _ (w.heap.size+1) 11 _)
 clear af ah
 have bj:((((((((((((d.setCell ⟨w.heap.size+1,0,none⟩ (.int .i64 k)).setCell ⟨w.heap.size+1,1,none⟩ (.int .i64 a)).setCell ⟨w.heap.size+1,2,none⟩ (.int .i64 b)).setCell ⟨w.heap.size+1,3,none⟩ (.int .i64 f)).setCell ⟨w.heap.size+1,4,none⟩ (.int .i64 s)).setCell ⟨w.heap.size+1,5,none⟩ (.slice q l.length p)).setCell ⟨w.heap.size+1,6,none⟩ (.slice t g.length r)).setCell ⟨w.heap.size+1,7,none⟩ (.int .i64 pl)).setCell ⟨w.heap.size+1,8,none⟩ (.int .i64 st)).setCell ⟨w.heap.size+1,9,none⟩ (.int .i64 fa)).setCell ⟨w.heap.size+1,10,none⟩ (.int .i64 fp)).setCell ⟨w.heap.size+1,11,none⟩ (.int .i64 bk))=m:=by rw[T,U,V,X,Y,Z,aa,ab,ac,y,z,A]
 clear A z y ac ab aa Z Y X V U T;have al:=Q00 ai;have z0:m.cell? ⟨w.heap.size+1,0,none⟩=some (.int .i64 k):=Q01 h 0 _ rfl;have z1:m.cell? ⟨w.heap.size+1,1,none⟩=some (.int .i64 a):=Q01 h 1 _ rfl;have z2:m.cell? ⟨w.heap.size+1,2,none⟩=some (.int .i64 b):=Q01 h 2 _ rfl;have z3:m.cell? ⟨w.heap.size+1,3,none⟩=some (.int .i64 f):=Q01 h 3 _ rfl;have z4:m.cell? ⟨w.heap.size+1,4,none⟩=some (.int .i64 s):=Q01 h 4 _ rfl;have z5:m.cell? ⟨w.heap.size+1,5,none⟩=some (.slice q l.length p):=Q01 h 5 _ rfl
 have z6:m.cell? ⟨w.heap.size+1,6,none⟩=some (.slice t g.length r):=Q01 h 6 _ rfl;have z7:m.cell? ⟨w.heap.size+1,7,none⟩=some (.int .i64 pl):=Q01 h 7 _ rfl;have z8:m.cell? ⟨w.heap.size+1,8,none⟩=some (.int .i64 st):=Q01 h 8 _ rfl;have z9:m.cell? ⟨w.heap.size+1,9,none⟩=some (.int .i64 fa):=Q01 h 9 _ rfl;have bd:m.cell? ⟨w.heap.size+1,10,none⟩=some (.int .i64 fp):=Q01 h 10 _ rfl;have be:m.cell? ⟨w.heap.size+1,11,none⟩=some (.int .i64 bk):=Q01 h 11 _ rfl;clear ai h;go_wp2
 refine bodyPost_ret (v:=mlv k a b f s (.slice q l.length p) (.slice t g.length r) pl st fa fp bk) (by simp[results,Tryz.results61,go_sem,z0,z1,z2,z3,z4,z5,z6,z7,z8,z9,bd,be]) rfl ⟨q,p,t,r,rfl, ?_, ?_, ?_⟩
 ·exact Q06 (((a9.out.step ak.out (.inl (by omega))).step al.out (.inl (by omega))).1) (by omega)
 ·exact Q06 (((ba.out.step ak.out (.inl (by omega))).step al.out (.inl (by omega))).1) (by omega)
 ·exact(a5.out.trans (ak.out.below (Kaq _) (by omega))).trans (al.out.below (by omega) (by omega))
theorem QeD {W W':World} {P:Nat} {X:Obj} (h:W.heap[P]? =some X) (hb:Below W.heap.size W W'):W'.heap[P]? =some X:=(hb.block P (KEq h)).trans h
theorem QaJ (v:Value) (m:Mm) (z:Int) (w:World) (I:RdMm w.heap.size w v m) (L:QbR m.c):
  Calls Tryz.prog 164 #[v,.int .i64 z] w fun e E=>e=.returned (.bool (Q4M m.k m.c.a m.c.b m.c.f m.c.s m.c.l.length m.c.g m.c.pl m.c.st m.fa m.fp m.bk && decide (m.c.st<=z)))/\Below w.heap.size w E:=by
 have C:Hid (∀W,Below w.heap.size w W->Calls Tryz.prog 208 #[v] W fun e E=>e=.returned (.bool (Q4M m.k m.c.a m.c.b m.c.f m.c.s m.c.l.length m.c.g m.c.pl m.c.st m.fa m.fp m.bk))/\Below W.heap.size W E):=fun W J=>Q9k v m W ((I.kept J (Kaq _)).le J.size) L
 obtain⟨X,V,rfl,⟨o,c,rfl,r⟩,⟨M,G,rfl,R⟩⟩:=I;clear r R L;obtain⟨B,H⟩:∃B,Q4M m.k m.c.a m.c.b m.c.f m.c.s m.c.l.length m.c.g m.c.pl m.c.st m.fa m.fp m.bk=B:=⟨_,rfl⟩;rw[H]at C ⊢;clear H;obtain⟨N,x⟩:∃q,m.c.l.length=q:=⟨_,rfl⟩;obtain⟨O,y⟩:∃q,m.c.g.length=q:=⟨_,rfl⟩;obtain⟨st,i⟩:∃q,m.c.st=q:=⟨_,rfl⟩;rw[x,y,i]at C;rw[x,y,i];clear x y i
 obtain⟨j,t⟩:∃W,w.alloc (.cells #[.int .i64 m.k,.int .i64 m.c.a,.int .i64 m.c.b,.int .i64 m.c.f,.int .i64 m.c.s,.slice o N c,.slice M O G,.int .i64 m.c.pl,.int .i64 st,.int .i64 m.fa,.int .i64 m.fp,.int .i64 m.bk] 113)=W:=⟨_,rfl⟩;have u:=alb0v0v1 t;have d:=alx0v0v1 t;have Y:j.cell? ⟨w.heap.size,0,none⟩=some (.int .i64 m.k):=Q01 d 0 _ rfl;have Z:j.cell? ⟨w.heap.size,1,none⟩=some (.int .i64 m.c.a):=Q01 d 1 _ rfl;have x2:j.cell? ⟨w.heap.size,2,none⟩=some (.int .i64 m.c.b):=Q01 d 2 _ rfl;have x3:j.cell? ⟨w.heap.size,3,none⟩=some (.int .i64 m.c.f):=Q01 d 3 _ rfl
 have x4:j.cell? ⟨w.heap.size,4,none⟩=some (.int .i64 m.c.s):=Q01 d 4 _ rfl;have x5:j.cell? ⟨w.heap.size,5,none⟩=some (.slice o N c):=Q01 d 5 _ rfl;have x6:j.cell? ⟨w.heap.size,6,none⟩=some (.slice M O G):=Q01 d 6 _ rfl;have x7:j.cell? ⟨w.heap.size,7,none⟩=some (.int .i64 m.c.pl):=Q01 d 7 _ rfl;have x8:j.cell? ⟨w.heap.size,8,none⟩=some (.int .i64 st):=Q01 d 8 _ rfl;have x9:j.cell? ⟨w.heap.size,9,none⟩=some (.int .i64 m.fa):=Q01 d 9 _ rfl;have T:j.cell? ⟨w.heap.size,10,none⟩=some (.int .i64 m.fp):=Q01 d 10 _ rfl
 have U:j.cell? ⟨w.heap.size,11,none⟩=some (.int .i64 m.bk):=Q01 d 11 _ rfl;have F:=Q00 (C.out j u);have n:=Q00 u;have D:=Q00 d;clear C u d
 cases B with
 |false=>
  go_enter Tryz.func164,Tryz.ntmps164;go_wp2_with fail;clear t;refine F.out.mono ?_;rintro e P ⟨rfl,h⟩;have p:=Q00 (n.out.trans (h.mono n.out.size));clear h;go_wp2;go_ret;exact⟨by simp,p.out⟩
 |true=>
  go_enter Tryz.func164,Tryz.ntmps164;go_wp2_with fail;clear t;refine F.out.mono ?_;rintro e P ⟨rfl,h⟩;have p:=Q00 (n.out.trans (h.mono n.out.size));have A:=QeD D.out h;have y8:P.cell? ⟨w.heap.size,8,none⟩=some (.int .i64 st):=Q01 A 8 _ rfl;clear h A
  by_cases i:st<=z
  ·go_wp2
   go_ret;exact⟨by simp[i],p.out⟩
  ·go_wp2
   go_ret;exact⟨by simp[i],p.out⟩
theorem Qbf (n:Int) (w:World):Calls Tryz.prog 122 #[.int .i64 n] w fun e a=>e=.returned (.bool (decide (0<=n) && decide (n<=65535)))/\w=a:=by
 go_enter Tryz.func122,Tryz.ntmps122;go_wp2
 all_goals go_ret
 all_goals refine⟨Q03 ?_,rfl⟩
 all_goals first|(simp[*];done)|(simp;omega)
theorem Qec (n:Int) (w:World):Calls Tryz.prog 108 #[.int .i64 n] w fun e a=>e=.returned (.bool (decide (0<=n) && decide (n<=99000)))/\w=a:=by
 go_enter Tryz.func108,Tryz.ntmps108;go_wp2
 all_goals go_ret
 all_goals refine⟨Q03 ?_,rfl⟩
 all_goals first|(simp[*];done)|(simp;omega)
theorem Q6e (n:Int) (w:World):Calls Tryz.prog 109 #[.int .i64 n] w fun e a=>e=.returned (.bool (decide (0<=n) && decide (n<=100000)))/\w=a:=by
 go_enter Tryz.func109,Tryz.ntmps109;go_wp2
 all_goals go_ret
 all_goals refine⟨Q03 ?_,rfl⟩
 all_goals first|(simp[*];done)|(simp;omega)
theorem QeR (a p bk c:Int) (w:World):
  Calls Tryz.prog 165 #[.agg #[.int .i64 a,.int .i64 p,.int .i64 bk,.int .i64 c]] w fun e y=>e=.returned (.bool (Q0g a p && decide (0<=bk) && decide (bk < 6) && decide (0<=c) && decide (c<=65535)))/\Below w.heap.size w y:=by
 obtain⟨t,g⟩:∃W,w.alloc (.cells #[.int .i64 a,.int .i64 p,.int .i64 bk,.int .i64 c] 143)=W:=⟨_,rfl⟩;have i:=alb0v0v1 g;have k:=alx0v0v1 g;have z:t.cell? ⟨w.heap.size,0,none⟩=some (.int .i64 a):=Q01 k 0 _ rfl;have A:t.cell? ⟨w.heap.size,1,none⟩=some (.int .i64 p):=Q01 k 1 _ rfl;have d:=Q00 i;have m:=Q00 k;clear i k;obtain⟨F,r⟩:∃F,Q0g a p=F:=⟨_,rfl⟩;have n:=Q00 (Q0v a p t);rw[r]at n;rw[r];clear r
 cases F with
 |false=>
  go_enter Tryz.func165,Tryz.ntmps165;go_wp2_with fail;clear g;refine n.out.mono ?_;rintro e j ⟨rfl,b⟩;have f:=Q00 (d.out.trans (b.mono d.out.size));clear b;go_wp2;go_ret;exact⟨by simp,f.out⟩
 |true=>
  go_enter Tryz.func165,Tryz.ntmps165;go_wp2_with fail;clear g;refine n.out.mono ?_;rintro e j ⟨rfl,b⟩;have f:=Q00 (d.out.trans (b.mono d.out.size));have h:=QeD m.out b;have C:j.cell? ⟨w.heap.size,2,none⟩=some (.int .i64 bk):=Q01 h 2 _ rfl;have D:j.cell? ⟨w.heap.size,3,none⟩=some (.int .i64 c):=Q01 h 3 _ rfl;clear b h z A;obtain⟨B,q⟩:∃B,(decide (0<=bk) && decide (bk < 6))=B:=⟨_,rfl⟩;obtain⟨S,s⟩:∃S,(decide (0<=c) && decide (c<=65535))=S:=⟨_,rfl⟩;have l:=Q00 (Q77 bk j);have v:=Q00 (Qbf c j);rw[q]at l;rw[s]at v
  have u:Hid ((true && decide (0<=bk) && decide (bk < 6) && decide (0<=c) && decide (c<=65535))=(B && S)):=by unfold Hid;rw[<-q,<-s];simp[Bool.and_assoc]
  clear q s
  cases B with
  |false=>
   go_wp2_with fail;refine l.out.mono ?_;rintro e x ⟨rfl,rfl⟩;go_wp2;go_ret;exact⟨by rw[u.out];rfl,f.out⟩
  |true=>
   go_wp2_with fail;refine l.out.mono ?_;rintro e x ⟨rfl,rfl⟩;go_wp2_with fail;refine v.out.mono ?_;rintro e x ⟨rfl,rfl⟩;go_wp2;go_ret;exact⟨by rw[u.out];rfl,f.out⟩
end Go.Proofs.YteffhdcankkfkaaGreat
