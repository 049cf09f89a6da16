/- Several texts in one: SKI2, SKI3. -/
import Derived.Deep.Cut
import Derived.Test.YtgplppfbinfelaaGreatQOldest32
import Derived.Test.YtgplppfbinfelaaGreatQOldest46
namespace Go.Proofs.YtgplppfbinfelaaGreat
open Go.ChangeShapes Go.WideShapes Go.ChangeAt Go.RowKit Go.Joins
set_option linter.unusedVariables false
set_option linter.unusedSimpArgs false
set_option maxRecDepth 100000
set_option maxHeartbeats 40000000
theorem cloneMail_any (k a b f s:Int) (o og:Option Addr) (cap cg:Nat) (l:List Int) (g:List (Int × Int)) (pl st fa fp bk:Int) (w:World) (hR:Rd w o l) (hnil:o=none→cap=0) (hl:l.length≤1048576) (hG:RdG w og g) (hnilg:og=none→cg=0) (hgl:g.length≤1048576):
  Calls Tryz.prog 73 #[mlv k a b f s (.slice o l.length cap) (.slice og g.length cg) pl st fa fp bk] w fun e w'=> ∃o1 c1 o2 c2,e=.returned (mlv k a b f s (.slice o1 l.length c1) (.slice o2 g.length c2) pl st fa fp bk)∧ownB w' w.heap.size (.slice o1 l.length c1) l∧ownG w' w.heap.size (.slice o2 g.length c2) g∧Below w.heap.size w w':=by
 obtain ⟨w0,hw0⟩:∃W,(w.alloc (.cells #[.int .i64 k,.int .i64 a,.int .i64 b,.int .i64 f,.int .i64 s,.slice o l.length cap,.slice og g.length cg,.int .i64 pl,.int .i64 st,.int .i64 fa,.int .i64 fp,.int .i64 bk] 96)).alloc (.cells #[.int .i64 0,.int .i64 0,.int .i64 0,.int .i64 0,.int .i64 0,.slice none 0 0,.slice none 0 0,.int .i64 0,.int .i64 0,.int .i64 0,.int .i64 0,.int .i64 0] 96)=W:=⟨_,rfl⟩
 have hb0:Below w.heap.size w w0:=by rw [←hw0];exact ((Below.refl _ _).alloc (Nat.le_refl _) _).alloc (by simp) _
 have hs0:w0.heap.size=w.heap.size+2:=by rw [←hw0];simp
 have bx:w0.heap[w.heap.size]? =some (.cells #[.int .i64 k,.int .i64 a,.int .i64 b,.int .i64 f,.int .i64 s,.slice o l.length cap,.slice og g.length cg,.int .i64 pl,.int .i64 st,.int .i64 fa,.int .i64 fp,.int .i64 bk] 96 (0,0)):=by
  rw [←hw0]
  exact (Below.heap_alloc (w.alloc (.cells #[.int .i64 k,.int .i64 a,.int .i64 b,.int .i64 f,.int .i64 s,.slice o l.length cap,.slice og g.length cg,.int .i64 pl,.int .i64 st,.int .i64 fa,.int .i64 fp,.int .i64 bk] 96)) (.cells #[.int .i64 0,.int .i64 0,.int .i64 0,.int .i64 0,.int .i64 0,.slice none 0 0,.slice none 0 0,.int .i64 0,.int .i64 0,.int .i64 0,.int .i64 0,.int .i64 0] 96) w.heap.size (by simp)).trans (World.alloc_heap_new w (.cells #[.int .i64 k,.int .i64 a,.int .i64 b,.int .i64 f,.int .i64 s,.slice o l.length cap,.slice og g.length cg,.int .i64 pl,.int .i64 st,.int .i64 fa,.int .i64 fp,.int .i64 bk] 96))
 have rx:w0.heap[w.heap.size+1]? =some (.cells #[.int .i64 0,.int .i64 0,.int .i64 0,.int .i64 0,.int .i64 0,.slice none 0 0,.slice none 0 0,.int .i64 0,.int .i64 0,.int .i64 0,.int .i64 0,.int .i64 0] 96 (0,0)):=by
  have:=World.alloc_heap_new (w.alloc (.cells #[.int .i64 k,.int .i64 a,.int .i64 b,.int .i64 f,.int .i64 s,.slice o l.length cap,.slice og g.length cg,.int .i64 pl,.int .i64 st,.int .i64 fa,.int .i64 fp,.int .i64 bk] 96)) (.cells #[.int .i64 0,.int .i64 0,.int .i64 0,.int .i64 0,.int .i64 0,.slice none 0 0,.slice none 0 0,.int .i64 0,.int .i64 0,.int .i64 0,.int .i64 0,.int .i64 0] 96)
  rw [←hw0]
  simpa only [World.size_alloc] using this
 have x1:w0.cell? ⟨w.heap.size,1,none⟩=some (.int .i64 a):=block_cell bx 1 _ rfl
 have x2:w0.cell? ⟨w.heap.size,2,none⟩=some (.int .i64 b):=block_cell bx 2 _ rfl
 have x3:w0.cell? ⟨w.heap.size,3,none⟩=some (.int .i64 f):=block_cell bx 3 _ rfl
 have x4:w0.cell? ⟨w.heap.size,4,none⟩=some (.int .i64 s):=block_cell bx 4 _ rfl
 have x5:w0.cell? ⟨w.heap.size,5,none⟩=some (.slice o l.length cap):=block_cell bx 5 _ rfl
 have x6:w0.cell? ⟨w.heap.size,6,none⟩=some (.slice og g.length cg):=block_cell bx 6 _ rfl
 have x7:w0.cell? ⟨w.heap.size,7,none⟩=some (.int .i64 pl):=block_cell bx 7 _ rfl
 have x8:w0.cell? ⟨w.heap.size,8,none⟩=some (.int .i64 st):=block_cell bx 8 _ rfl
 have HC:=hide (cloneCarrier_any a b f s o og cap cg l g pl st w0 (hR.kept hb0) hnil hl (hG.kept hb0) hnilg hgl)
 have HBX:=hide bx
 have HRX:=hide rx
 have HB0:=hide hb0
 have HS0:=hide hs0
 clear hR hnil hG hnilg bx rx hb0 hs0
 go_enter Tryz.func73,Tryz.ntmps73
 go_wp2_with fail
 clear hw0
 refine HC.out.mono ?_
 rintro e w1 ⟨v1,v2,rfl,hv1,hv2,hb1⟩
 obtain ⟨o1,c1,rfl,_⟩:=hv1.open
 obtain ⟨o2,c2,rfl,_⟩:=hv2.open
 have hs0:=HS0.out
 have bx1:=(hb1.block w.heap.size (by omega)).trans HBX.out
 have rx1:=(hb1.block (w.heap.size+1) (by omega)).trans HRX.out
 have hs1:=hb1.size
 have HB1:=hide (HB0.out.trans (hb1.mono HB0.out.size))
 have HV1:=hide (InRow.of hv1)
 have HV2:=hide (InRow.of hv2)
 clear x1 x2 x3 x4 x5 x6 x7 x8 HC hv1 hv2 hb1 HB0
 have x1:w1.cell? ⟨w.heap.size,1,none⟩=some (.int .i64 a):=block_cell bx1 1 _ rfl
 have f1:w1.frozen? ⟨w.heap.size,1,none⟩=false:=block_frozen bx1 1
 have x2:w1.cell? ⟨w.heap.size,2,none⟩=some (.int .i64 b):=block_cell bx1 2 _ rfl
 have f2:w1.frozen? ⟨w.heap.size,2,none⟩=false:=block_frozen bx1 2
 have x3:w1.cell? ⟨w.heap.size,3,none⟩=some (.int .i64 f):=block_cell bx1 3 _ rfl
 have f3:w1.frozen? ⟨w.heap.size,3,none⟩=false:=block_frozen bx1 3
 have x4:w1.cell? ⟨w.heap.size,4,none⟩=some (.int .i64 s):=block_cell bx1 4 _ rfl
 have f4:w1.frozen? ⟨w.heap.size,4,none⟩=false:=block_frozen bx1 4
 have x5:w1.cell? ⟨w.heap.size,5,none⟩=some (.slice o l.length cap):=block_cell bx1 5 _ rfl
 have f5:w1.frozen? ⟨w.heap.size,5,none⟩=false:=block_frozen bx1 5
 have x6:w1.cell? ⟨w.heap.size,6,none⟩=some (.slice og g.length cg):=block_cell bx1 6 _ rfl
 have f6:w1.frozen? ⟨w.heap.size,6,none⟩=false:=block_frozen bx1 6
 have x7:w1.cell? ⟨w.heap.size,7,none⟩=some (.int .i64 pl):=block_cell bx1 7 _ rfl
 have f7:w1.frozen? ⟨w.heap.size,7,none⟩=false:=block_frozen bx1 7
 have x8:w1.cell? ⟨w.heap.size,8,none⟩=some (.int .i64 st):=block_cell bx1 8 _ rfl
 have f8:w1.frozen? ⟨w.heap.size,8,none⟩=false:=block_frozen bx1 8
 have ms0:Stp (w.heap.size) (w.heap.size+1) w1 w1:=Stp.refl _
 have mr0:=bx1
 obtain ⟨m1,mh1⟩:∃W,w1.setCell ⟨w.heap.size,1,none⟩ (.int .i64 a)=W:=⟨_,rfl⟩
 have mr1:m1.heap[w.heap.size]? =some (.cells #[.int .i64 k,.int .i64 a,.int .i64 b,.int .i64 f,.int .i64 s,.slice o l.length cap,.slice og g.length cg,.int .i64 pl,.int .i64 st,.int .i64 fa,.int .i64 fp,.int .i64 bk] 96 (0,0)):=by rw [←mh1];exact box_set _ (w.heap.size) 1 _ _ (.int .i64 a) mr0
 have ms1:Stp (w.heap.size) (w.heap.size+1) w1 m1:=by rw [←mh1];exact ms0.trans (stp_set1 _ (w.heap.size) 1 _)
 clear mr0 ms0
 obtain ⟨m2,mh2⟩:∃W,m1.setCell ⟨w.heap.size,2,none⟩ (.int .i64 b)=W:=⟨_,rfl⟩
 have mr2:m2.heap[w.heap.size]? =some (.cells #[.int .i64 k,.int .i64 a,.int .i64 b,.int .i64 f,.int .i64 s,.slice o l.length cap,.slice og g.length cg,.int .i64 pl,.int .i64 st,.int .i64 fa,.int .i64 fp,.int .i64 bk] 96 (0,0)):=by rw [←mh2];exact box_set _ (w.heap.size) 2 _ _ (.int .i64 b) mr1
 have ms2:Stp (w.heap.size) (w.heap.size+1) w1 m2:=by rw [←mh2];exact ms1.trans (stp_set1 _ (w.heap.size) 2 _)
 clear mr1 ms1
 obtain ⟨m3,mh3⟩:∃W,m2.setCell ⟨w.heap.size,3,none⟩ (.int .i64 f)=W:=⟨_,rfl⟩
 have mr3:m3.heap[w.heap.size]? =some (.cells #[.int .i64 k,.int .i64 a,.int .i64 b,.int .i64 f,.int .i64 s,.slice o l.length cap,.slice og g.length cg,.int .i64 pl,.int .i64 st,.int .i64 fa,.int .i64 fp,.int .i64 bk] 96 (0,0)):=by rw [←mh3];exact box_set _ (w.heap.size) 3 _ _ (.int .i64 f) mr2
 have ms3:Stp (w.heap.size) (w.heap.size+1) w1 m3:=by rw [←mh3];exact ms2.trans (stp_set1 _ (w.heap.size) 3 _)
 clear mr2 ms2
 obtain ⟨m4,mh4⟩:∃W,m3.setCell ⟨w.heap.size,4,none⟩ (.int .i64 s)=W:=⟨_,rfl⟩
 have mr4:m4.heap[w.heap.size]? =some (.cells #[.int .i64 k,.int .i64 a,.int .i64 b,.int .i64 f,.int .i64 s,.slice o l.length cap,.slice og g.length cg,.int .i64 pl,.int .i64 st,.int .i64 fa,.int .i64 fp,.int .i64 bk] 96 (0,0)):=by rw [←mh4];exact box_set _ (w.heap.size) 4 _ _ (.int .i64 s) mr3
 have ms4:Stp (w.heap.size) (w.heap.size+1) w1 m4:=by rw [←mh4];exact ms3.trans (stp_set1 _ (w.heap.size) 4 _)
 clear mr3 ms3
 obtain ⟨m5,mh5⟩:∃W,m4.setCell ⟨w.heap.size,5,none⟩ (.slice o1 l.length c1)=W:=⟨_,rfl⟩
 have mr5:m5.heap[w.heap.size]? =some (.cells #[.int .i64 k,.int .i64 a,.int .i64 b,.int .i64 f,.int .i64 s,.slice o1 l.length c1,.slice og g.length cg,.int .i64 pl,.int .i64 st,.int .i64 fa,.int .i64 fp,.int .i64 bk] 96 (0,0)):=by rw [←mh5];exact box_set _ (w.heap.size) 5 _ _ (.slice o1 l.length c1) mr4
 have ms5:Stp (w.heap.size) (w.heap.size+1) w1 m5:=by rw [←mh5];exact ms4.trans (stp_set1 _ (w.heap.size) 5 _)
 clear mr4 ms4
 obtain ⟨m6,mh6⟩:∃W,m5.setCell ⟨w.heap.size,6,none⟩ (.slice o2 g.length c2)=W:=⟨_,rfl⟩
 have mr6:m6.heap[w.heap.size]? =some (.cells #[.int .i64 k,.int .i64 a,.int .i64 b,.int .i64 f,.int .i64 s,.slice o1 l.length c1,.slice o2 g.length c2,.int .i64 pl,.int .i64 st,.int .i64 fa,.int .i64 fp,.int .i64 bk] 96 (0,0)):=by rw [←mh6];exact box_set _ (w.heap.size) 6 _ _ (.slice o2 g.length c2) mr5
 have ms6:Stp (w.heap.size) (w.heap.size+1) w1 m6:=by rw [←mh6];exact ms5.trans (stp_set1 _ (w.heap.size) 6 _)
 clear mr5 ms5
 obtain ⟨m7,mh7⟩:∃W,m6.setCell ⟨w.heap.size,7,none⟩ (.int .i64 pl)=W:=⟨_,rfl⟩
 have mr7:m7.heap[w.heap.size]? =some (.cells #[.int .i64 k,.int .i64 a,.int .i64 b,.int .i64 f,.int .i64 s,.slice o1 l.length c1,.slice o2 g.length c2,.int .i64 pl,.int .i64 st,.int .i64 fa,.int .i64 fp,.int .i64 bk] 96 (0,0)):=by rw [←mh7];exact box_set _ (w.heap.size) 7 _ _ (.int .i64 pl) mr6
 have ms7:Stp (w.heap.size) (w.heap.size+1) w1 m7:=by rw [←mh7];exact ms6.trans (stp_set1 _ (w.heap.size) 7 _)
 clear mr6 ms6
 obtain ⟨m8,mh8⟩:∃W,m7.setCell ⟨w.heap.size,8,none⟩ (.int .i64 st)=W:=⟨_,rfl⟩
 have mr8:m8.heap[w.heap.size]? =some (.cells #[.int .i64 k,.int .i64 a,.int .i64 b,.int .i64 f,.int .i64 s,.slice o1 l.length c1,.slice o2 g.length c2,.int .i64 pl,.int .i64 st,.int .i64 fa,.int .i64 fp,.int .i64 bk] 96 (0,0)):=by rw [←mh8];exact box_set _ (w.heap.size) 8 _ _ (.int .i64 st) mr7
 have ms8:Stp (w.heap.size) (w.heap.size+1) w1 m8:=by rw [←mh8];exact ms7.trans (stp_set1 _ (w.heap.size) 8 _)
 clear mr7 ms7
 have hw2:((((((((w1.setCell ⟨w.heap.size,1,none⟩ (.int .i64 a)).setCell ⟨w.heap.size,2,none⟩ (.int .i64 b)).setCell ⟨w.heap.size,3,none⟩ (.int .i64 f)).setCell ⟨w.heap.size,4,none⟩ (.int .i64 s)).setCell ⟨w.heap.size,5,none⟩ (.slice o1 l.length c1)).setCell ⟨w.heap.size,6,none⟩ (.slice o2 g.length c2)).setCell ⟨w.heap.size,7,none⟩ (.int .i64 pl)).setCell ⟨w.heap.size,8,none⟩ (.int .i64 st))=m8:=by rw [mh1,mh2,mh3,mh4,mh5,mh6,mh7,mh8]
 clear mh8 mh7 mh6 mh5 mh4 mh3 mh2 mh1
 have HSA:=hide ms8
 have HBX2:=hide mr8
 have HRX2:=hide ((ms8.block (w.heap.size+1) (by omega) (by omega)).trans rx1)
 have hs2:=ms8.size
 clear ms8 mr8 bx1 rx1
 go_upto_region 2 with fail
 clear x1 f1 x2 f2 x3 f3 x4 f4 x5 f5 x6 f6 x7 f7 x8 f8
 clear hw2
 have y0:m8.cell? ⟨w.heap.size,0,none⟩=some (.int .i64 k):=block_cell HBX2.out 0 _ rfl
 have y1:m8.cell? ⟨w.heap.size,1,none⟩=some (.int .i64 a):=block_cell HBX2.out 1 _ rfl
 have y2:m8.cell? ⟨w.heap.size,2,none⟩=some (.int .i64 b):=block_cell HBX2.out 2 _ rfl
 have y3:m8.cell? ⟨w.heap.size,3,none⟩=some (.int .i64 f):=block_cell HBX2.out 3 _ rfl
 have y4:m8.cell? ⟨w.heap.size,4,none⟩=some (.int .i64 s):=block_cell HBX2.out 4 _ rfl
 have y5:m8.cell? ⟨w.heap.size,5,none⟩=some (.slice o1 l.length c1):=block_cell HBX2.out 5 _ rfl
 have y6:m8.cell? ⟨w.heap.size,6,none⟩=some (.slice o2 g.length c2):=block_cell HBX2.out 6 _ rfl
 have y7:m8.cell? ⟨w.heap.size,7,none⟩=some (.int .i64 pl):=block_cell HBX2.out 7 _ rfl
 have y8:m8.cell? ⟨w.heap.size,8,none⟩=some (.int .i64 st):=block_cell HBX2.out 8 _ rfl
 have y9:m8.cell? ⟨w.heap.size,9,none⟩=some (.int .i64 fa):=block_cell HBX2.out 9 _ rfl
 have y10:m8.cell? ⟨w.heap.size,10,none⟩=some (.int .i64 fp):=block_cell HBX2.out 10 _ rfl
 have y11:m8.cell? ⟨w.heap.size,11,none⟩=some (.int .i64 bk):=block_cell HBX2.out 11 _ rfl
 have u0:m8.cell? ⟨w.heap.size+1,0,none⟩=some (.int .i64 0):=block_cell HRX2.out 0 _ rfl
 have g0:m8.frozen? ⟨w.heap.size+1,0,none⟩=false:=block_frozen HRX2.out 0
 have u1:m8.cell? ⟨w.heap.size+1,1,none⟩=some (.int .i64 0):=block_cell HRX2.out 1 _ rfl
 have g1:m8.frozen? ⟨w.heap.size+1,1,none⟩=false:=block_frozen HRX2.out 1
 have u2:m8.cell? ⟨w.heap.size+1,2,none⟩=some (.int .i64 0):=block_cell HRX2.out 2 _ rfl
 have g2:m8.frozen? ⟨w.heap.size+1,2,none⟩=false:=block_frozen HRX2.out 2
 have u3:m8.cell? ⟨w.heap.size+1,3,none⟩=some (.int .i64 0):=block_cell HRX2.out 3 _ rfl
 have g3:m8.frozen? ⟨w.heap.size+1,3,none⟩=false:=block_frozen HRX2.out 3
 have u4:m8.cell? ⟨w.heap.size+1,4,none⟩=some (.int .i64 0):=block_cell HRX2.out 4 _ rfl
 have g4:m8.frozen? ⟨w.heap.size+1,4,none⟩=false:=block_frozen HRX2.out 4
 have u5:m8.cell? ⟨w.heap.size+1,5,none⟩=some (.slice none 0 0):=block_cell HRX2.out 5 _ rfl
 have g5:m8.frozen? ⟨w.heap.size+1,5,none⟩=false:=block_frozen HRX2.out 5
 have u6:m8.cell? ⟨w.heap.size+1,6,none⟩=some (.slice none 0 0):=block_cell HRX2.out 6 _ rfl
 have g6:m8.frozen? ⟨w.heap.size+1,6,none⟩=false:=block_frozen HRX2.out 6
 have u7:m8.cell? ⟨w.heap.size+1,7,none⟩=some (.int .i64 0):=block_cell HRX2.out 7 _ rfl
 have g7:m8.frozen? ⟨w.heap.size+1,7,none⟩=false:=block_frozen HRX2.out 7
 have u8:m8.cell? ⟨w.heap.size+1,8,none⟩=some (.int .i64 0):=block_cell HRX2.out 8 _ rfl
 have g8:m8.frozen? ⟨w.heap.size+1,8,none⟩=false:=block_frozen HRX2.out 8
 have u9:m8.cell? ⟨w.heap.size+1,9,none⟩=some (.int .i64 0):=block_cell HRX2.out 9 _ rfl
 have g9:m8.frozen? ⟨w.heap.size+1,9,none⟩=false:=block_frozen HRX2.out 9
 have u10:m8.cell? ⟨w.heap.size+1,10,none⟩=some (.int .i64 0):=block_cell HRX2.out 10 _ rfl
 have g10:m8.frozen? ⟨w.heap.size+1,10,none⟩=false:=block_frozen HRX2.out 10
 have u11:m8.cell? ⟨w.heap.size+1,11,none⟩=some (.int .i64 0):=block_cell HRX2.out 11 _ rfl
 have g11:m8.frozen? ⟨w.heap.size+1,11,none⟩=false:=block_frozen HRX2.out 11
 have ns0:Stp (w.heap.size+1) (w.heap.size+1+1) m8 m8:=Stp.refl _
 have nr0:=HRX2.out
 obtain ⟨n1,nh1⟩:∃W,m8.setCell ⟨w.heap.size+1,0,none⟩ (.int .i64 k)=W:=⟨_,rfl⟩
 have nr1:n1.heap[w.heap.size+1]? =some (.cells #[.int .i64 k,.int .i64 0,.int .i64 0,.int .i64 0,.int .i64 0,.slice none 0 0,.slice none 0 0,.int .i64 0,.int .i64 0,.int .i64 0,.int .i64 0,.int .i64 0] 96 (0,0)):=by rw [←nh1];exact box_set _ (w.heap.size+1) 0 _ _ (.int .i64 k) nr0
 have ns1:Stp (w.heap.size+1) (w.heap.size+1+1) m8 n1:=by rw [←nh1];exact ns0.trans (stp_set1 _ (w.heap.size+1) 0 _)
 clear nr0 ns0
 obtain ⟨n2,nh2⟩:∃W,n1.setCell ⟨w.heap.size+1,1,none⟩ (.int .i64 a)=W:=⟨_,rfl⟩
 have nr2:n2.heap[w.heap.size+1]? =some (.cells #[.int .i64 k,.int .i64 a,.int .i64 0,.int .i64 0,.int .i64 0,.slice none 0 0,.slice none 0 0,.int .i64 0,.int .i64 0,.int .i64 0,.int .i64 0,.int .i64 0] 96 (0,0)):=by rw [←nh2];exact box_set _ (w.heap.size+1) 1 _ _ (.int .i64 a) nr1
 have ns2:Stp (w.heap.size+1) (w.heap.size+1+1) m8 n2:=by rw [←nh2];exact ns1.trans (stp_set1 _ (w.heap.size+1) 1 _)
 clear nr1 ns1
 obtain ⟨n3,nh3⟩:∃W,n2.setCell ⟨w.heap.size+1,2,none⟩ (.int .i64 b)=W:=⟨_,rfl⟩
 have nr3:n3.heap[w.heap.size+1]? =some (.cells #[.int .i64 k,.int .i64 a,.int .i64 b,.int .i64 0,.int .i64 0,.slice none 0 0,.slice none 0 0,.int .i64 0,.int .i64 0,.int .i64 0,.int .i64 0,.int .i64 0] 96 (0,0)):=by rw [←nh3];exact box_set _ (w.heap.size+1) 2 _ _ (.int .i64 b) nr2
 have ns3:Stp (w.heap.size+1) (w.heap.size+1+1) m8 n3:=by rw [←nh3];exact ns2.trans (stp_set1 _ (w.heap.size+1) 2 _)
 clear nr2 ns2
 obtain ⟨n4,nh4⟩:∃W,n3.setCell ⟨w.heap.size+1,3,none⟩ (.int .i64 f)=W:=⟨_,rfl⟩
 have nr4:n4.heap[w.heap.size+1]? =some (.cells #[.int .i64 k,.int .i64 a,.int .i64 b,.int .i64 f,.int .i64 0,.slice none 0 0,.slice none 0 0,.int .i64 0,.int .i64 0,.int .i64 0,.int .i64 0,.int .i64 0] 96 (0,0)):=by rw [←nh4];exact box_set _ (w.heap.size+1) 3 _ _ (.int .i64 f) nr3
 have ns4:Stp (w.heap.size+1) (w.heap.size+1+1) m8 n4:=by rw [←nh4];exact ns3.trans (stp_set1 _ (w.heap.size+1) 3 _)
 clear nr3 ns3
 obtain ⟨n5,nh5⟩:∃W,n4.setCell ⟨w.heap.size+1,4,none⟩ (.int .i64 s)=W:=⟨_,rfl⟩
 have nr5:n5.heap[w.heap.size+1]? =some (.cells #[.int .i64 k,.int .i64 a,.int .i64 b,.int .i64 f,.int .i64 s,.slice none 0 0,.slice none 0 0,.int .i64 0,.int .i64 0,.int .i64 0,.int .i64 0,.int .i64 0] 96 (0,0)):=by rw [←nh5];exact box_set _ (w.heap.size+1) 4 _ _ (.int .i64 s) nr4
 have ns5:Stp (w.heap.size+1) (w.heap.size+1+1) m8 n5:=by rw [←nh5];exact ns4.trans (stp_set1 _ (w.heap.size+1) 4 _)
 clear nr4 ns4
 obtain ⟨n6,nh6⟩:∃W,n5.setCell ⟨w.heap.size+1,5,none⟩ (.slice o1 l.length c1)=W:=⟨_,rfl⟩
 have nr6:n6.heap[w.heap.size+1]? =some (.cells #[.int .i64 k,.int .i64 a,.int .i64 b,.int .i64 f,.int .i64 s,.slice o1 l.length c1,.slice none 0 0,.int .i64 0,.int .i64 0,.int .i64 0,.int .i64 0,.int .i64 0] 96 (0,0)):=by rw [←nh6];exact box_set _ (w.heap.size+1) 5 _ _ (.slice o1 l.length c1) nr5
 have ns6:Stp (w.heap.size+1) (w.heap.size+1+1) m8 n6:=by rw [←nh6];exact ns5.trans (stp_set1 _ (w.heap.size+1) 5 _)
 clear nr5 ns5
 obtain ⟨n7,nh7⟩:∃W,n6.setCell ⟨w.heap.size+1,6,none⟩ (.slice o2 g.length c2)=W:=⟨_,rfl⟩
 have nr7:n7.heap[w.heap.size+1]? =some (.cells #[.int .i64 k,.int .i64 a,.int .i64 b,.int .i64 f,.int .i64 s,.slice o1 l.length c1,.slice o2 g.length c2,.int .i64 0,.int .i64 0,.int .i64 0,.int .i64 0,.int .i64 0] 96 (0,0)):=by rw [←nh7];exact box_set _ (w.heap.size+1) 6 _ _ (.slice o2 g.length c2) nr6
 have ns7:Stp (w.heap.size+1) (w.heap.size+1+1) m8 n7:=by rw [←nh7];exact ns6.trans (stp_set1 _ (w.heap.size+1) 6 _)
 clear nr6 ns6
 obtain ⟨n8,nh8⟩:∃W,n7.setCell ⟨w.heap.size+1,7,none⟩ (.int .i64 pl)=W:=⟨_,rfl⟩
 have nr8:n8.heap[w.heap.size+1]? =some (.cells #[.int .i64 k,.int .i64 a,.int .i64 b,.int .i64 f,.int .i64 s,.slice o1 l.length c1,.slice o2 g.length c2,.int .i64 pl,.int .i64 0,.int .i64 0,.int .i64 0,.int .i64 0] 96 (0,0)):=by rw [←nh8];exact box_set _ (w.heap.size+1) 7 _ _ (.int .i64 pl) nr7
 have ns8:Stp (w.heap.size+1) (w.heap.size+1+1) m8 n8:=by rw [←nh8];exact ns7.trans (stp_set1 _ (w.heap.size+1) 7 _)
 clear nr7 ns7
 obtain ⟨n9,nh9⟩:∃W,n8.setCell ⟨w.heap.size+1,8,none⟩ (.int .i64 st)=W:=⟨_,rfl⟩
 have nr9:n9.heap[w.heap.size+1]? =some (.cells #[.int .i64 k,.int .i64 a,.int .i64 b,.int .i64 f,.int .i64 s,.slice o1 l.length c1,.slice o2 g.length c2,.int .i64 pl,.int .i64 st,.int .i64 0,.int .i64 0,.int .i64 0] 96 (0,0)):=by rw [←nh9];exact box_set _ (w.heap.size+1) 8 _ _ (.int .i64 st) nr8
 have ns9:Stp (w.heap.size+1) (w.heap.size+1+1) m8 n9:=by rw [←nh9];exact ns8.trans (stp_set1 _ (w.heap.size+1) 8 _)
 clear nr8 ns8
 obtain ⟨n10,nh10⟩:∃W,n9.setCell ⟨w.heap.size+1,9,none⟩ (.int .i64 fa)=W:=⟨_,rfl⟩
 have nr10:n10.heap[w.heap.size+1]? =some (.cells #[.int .i64 k,.int .i64 a,.int .i64 b,.int .i64 f,.int .i64 s,.slice o1 l.length c1,.slice o2 g.length c2,.int .i64 pl,.int .i64 st,.int .i64 fa,.int .i64 0,.int .i64 0] 96 (0,0)):=by rw [←nh10];exact box_set _ (w.heap.size+1) 9 _ _ (.int .i64 fa) nr9
 have ns10:Stp (w.heap.size+1) (w.heap.size+1+1) m8 n10:=by rw [←nh10];exact ns9.trans (stp_set1 _ (w.heap.size+1) 9 _)
 clear nr9 ns9
 obtain ⟨n11,nh11⟩:∃W,n10.setCell ⟨w.heap.size+1,10,none⟩ (.int .i64 fp)=W:=⟨_,rfl⟩
 have nr11:n11.heap[w.heap.size+1]? =some (.cells #[.int .i64 k,.int .i64 a,.int .i64 b,.int .i64 f,.int .i64 s,.slice o1 l.length c1,.slice o2 g.length c2,.int .i64 pl,.int .i64 st,.int .i64 fa,.int .i64 fp,.int .i64 0] 96 (0,0)):=by rw [←nh11];exact box_set _ (w.heap.size+1) 10 _ _ (.int .i64 fp) nr10
 have ns11:Stp (w.heap.size+1) (w.heap.size+1+1) m8 n11:=by rw [←nh11];exact ns10.trans (stp_set1 _ (w.heap.size+1) 10 _)
 clear nr10 ns10
 obtain ⟨n12,nh12⟩:∃W,n11.setCell ⟨w.heap.size+1,11,none⟩ (.int .i64 bk)=W:=⟨_,rfl⟩
 have nr12:n12.heap[w.heap.size+1]? =some (.cells #[.int .i64 k,.int .i64 a,.int .i64 b,.int .i64 f,.int .i64 s,.slice o1 l.length c1,.slice o2 g.length c2,.int .i64 pl,.int .i64 st,.int .i64 fa,.int .i64 fp,.int .i64 bk] 96 (0,0)):=by rw [←nh12];exact box_set _ (w.heap.size+1) 11 _ _ (.int .i64 bk) nr11
 have ns12:Stp (w.heap.size+1) (w.heap.size+1+1) m8 n12:=by rw [←nh12];exact ns11.trans (stp_set1 _ (w.heap.size+1) 11 _)
 clear nr11 ns11
 have hw3:((((((((((((m8.setCell ⟨w.heap.size+1,0,none⟩ (.int .i64 k)).setCell ⟨w.heap.size+1,1,none⟩ (.int .i64 a)).setCell ⟨w.heap.size+1,2,none⟩ (.int .i64 b)).setCell ⟨w.heap.size+1,3,none⟩ (.int .i64 f)).setCell ⟨w.heap.size+1,4,none⟩ (.int .i64 s)).setCell ⟨w.heap.size+1,5,none⟩ (.slice o1 l.length c1)).setCell ⟨w.heap.size+1,6,none⟩ (.slice o2 g.length c2)).setCell ⟨w.heap.size+1,7,none⟩ (.int .i64 pl)).setCell ⟨w.heap.size+1,8,none⟩ (.int .i64 st)).setCell ⟨w.heap.size+1,9,none⟩ (.int .i64 fa)).setCell ⟨w.heap.size+1,10,none⟩ (.int .i64 fp)).setCell ⟨w.heap.size+1,11,none⟩ (.int .i64 bk))=n12:=by rw [nh1,nh2,nh3,nh4,nh5,nh6,nh7,nh8,nh9,nh10,nh11,nh12]
 clear nh12 nh11 nh10 nh9 nh8 nh7 nh6 nh5 nh4 nh3 nh2 nh1
 have HSB:=hide ns12
 have z0:n12.cell? ⟨w.heap.size+1,0,none⟩=some (.int .i64 k):=block_cell nr12 0 _ rfl
 have z1:n12.cell? ⟨w.heap.size+1,1,none⟩=some (.int .i64 a):=block_cell nr12 1 _ rfl
 have z2:n12.cell? ⟨w.heap.size+1,2,none⟩=some (.int .i64 b):=block_cell nr12 2 _ rfl
 have z3:n12.cell? ⟨w.heap.size+1,3,none⟩=some (.int .i64 f):=block_cell nr12 3 _ rfl
 have z4:n12.cell? ⟨w.heap.size+1,4,none⟩=some (.int .i64 s):=block_cell nr12 4 _ rfl
 have z5:n12.cell? ⟨w.heap.size+1,5,none⟩=some (.slice o1 l.length c1):=block_cell nr12 5 _ rfl
 have z6:n12.cell? ⟨w.heap.size+1,6,none⟩=some (.slice o2 g.length c2):=block_cell nr12 6 _ rfl
 have z7:n12.cell? ⟨w.heap.size+1,7,none⟩=some (.int .i64 pl):=block_cell nr12 7 _ rfl
 have z8:n12.cell? ⟨w.heap.size+1,8,none⟩=some (.int .i64 st):=block_cell nr12 8 _ rfl
 have z9:n12.cell? ⟨w.heap.size+1,9,none⟩=some (.int .i64 fa):=block_cell nr12 9 _ rfl
 have z10:n12.cell? ⟨w.heap.size+1,10,none⟩=some (.int .i64 fp):=block_cell nr12 10 _ rfl
 have z11:n12.cell? ⟨w.heap.size+1,11,none⟩=some (.int .i64 bk):=block_cell nr12 11 _ rfl
 clear ns12 nr12
 go_wp2
 refine bodyPost_ret (v:=mlv k a b f s (.slice o1 l.length c1) (.slice o2 g.length c2) pl st fa fp bk) (by simp [results,Tryz.results73,go_sem,z0,z1,z2,z3,z4,z5,z6,z7,z8,z9,z10,z11]) rfl ⟨o1,c1,o2,c2,rfl, ?_, ?_, ?_⟩
 ·exact own_mono (((HV1.out.step HSA.out (.inl (by omega))).step HSB.out (.inl (by omega))).1) (by omega)
 ·exact own_mono (((HV2.out.step HSA.out (.inl (by omega))).step HSB.out (.inl (by omega))).1) (by omega)
 ·exact (HB1.out.trans (HSA.out.below (Nat.le_refl _) (by omega))).trans (HSB.out.below (by omega) (by omega))
theorem hp_on' {W W':World} {P:Nat} {X:Obj} (h:W.heap[P]? =some X) (hb:Below W.heap.size W W'):W'.heap[P]? =some X:=(hb.block P (Array.getElem?_eq_some_iff.1 h).1).trans h
theorem mailOkBy_any (v:Value) (m:Mm) (now:Int) (w:World) (hR:RdMm w.heap.size w v m) (hf:fitCm m.c):
  Calls Tryz.prog 162 #[v,.int .i64 now] w fun e w'=> e=.returned (.bool (mailB m.k m.c.a m.c.b m.c.f m.c.s m.c.l.length m.c.g m.c.pl m.c.st m.fa m.fp m.bk && decide (m.c.st≤now)))∧Below w.heap.size w w':=by
 have HM:Hid (∀W,Below w.heap.size w W→Calls Tryz.prog 205 #[v] W fun e w'=> e=.returned (.bool (mailB m.k m.c.a m.c.b m.c.f m.c.s m.c.l.length m.c.g m.c.pl m.c.st m.fa m.fp m.bk))∧Below W.heap.size W w'):=fun W hb=> implMailOk_sh v m W ((hR.kept hb (Nat.le_refl _)).le hb.size) hf
 obtain ⟨vl,vg,rfl,⟨o,c,rfl,r⟩,⟨og,cg,rfl,rg⟩⟩:=hR
 clear r rg hf
 obtain ⟨B,hB⟩:∃B,mailB m.k m.c.a m.c.b m.c.f m.c.s m.c.l.length m.c.g m.c.pl m.c.st m.fa m.fp m.bk=B:=⟨_,rfl⟩
 rw [hB] at HM ⊢
 clear hB
 obtain ⟨q1,hq1⟩:∃q,m.c.l.length=q:=⟨_,rfl⟩
 obtain ⟨q2,hq2⟩:∃q,m.c.g.length=q:=⟨_,rfl⟩
 obtain ⟨st,hst⟩:∃q,m.c.st=q:=⟨_,rfl⟩
 rw [hq1,hq2,hst] at HM
 rw [hq1,hq2,hst]
 clear hq1 hq2 hst
 obtain ⟨w0,hw0⟩:∃W,w.alloc (.cells #[.int .i64 m.k,.int .i64 m.c.a,.int .i64 m.c.b,.int .i64 m.c.f,.int .i64 m.c.s,.slice o q1 c,.slice og q2 cg,.int .i64 m.c.pl,.int .i64 st,.int .i64 m.fa,.int .i64 m.fp,.int .i64 m.bk] 96)=W:=⟨_,rfl⟩
 have hb0:Below w.heap.size w w0:=by rw [←hw0];exact (Below.refl _ _).alloc (Nat.le_refl _) _
 have bx:w0.heap[w.heap.size]? =some (.cells #[.int .i64 m.k,.int .i64 m.c.a,.int .i64 m.c.b,.int .i64 m.c.f,.int .i64 m.c.s,.slice o q1 c,.slice og q2 cg,.int .i64 m.c.pl,.int .i64 st,.int .i64 m.fa,.int .i64 m.fp,.int .i64 m.bk] 96 (0,0)):=by rw [←hw0];exact World.alloc_heap_new _ _
 have x0:w0.cell? ⟨w.heap.size,0,none⟩=some (.int .i64 m.k):=block_cell bx 0 _ rfl
 have x1:w0.cell? ⟨w.heap.size,1,none⟩=some (.int .i64 m.c.a):=block_cell bx 1 _ rfl
 have x2:w0.cell? ⟨w.heap.size,2,none⟩=some (.int .i64 m.c.b):=block_cell bx 2 _ rfl
 have x3:w0.cell? ⟨w.heap.size,3,none⟩=some (.int .i64 m.c.f):=block_cell bx 3 _ rfl
 have x4:w0.cell? ⟨w.heap.size,4,none⟩=some (.int .i64 m.c.s):=block_cell bx 4 _ rfl
 have x5:w0.cell? ⟨w.heap.size,5,none⟩=some (.slice o q1 c):=block_cell bx 5 _ rfl
 have x6:w0.cell? ⟨w.heap.size,6,none⟩=some (.slice og q2 cg):=block_cell bx 6 _ rfl
 have x7:w0.cell? ⟨w.heap.size,7,none⟩=some (.int .i64 m.c.pl):=block_cell bx 7 _ rfl
 have x8:w0.cell? ⟨w.heap.size,8,none⟩=some (.int .i64 st):=block_cell bx 8 _ rfl
 have x9:w0.cell? ⟨w.heap.size,9,none⟩=some (.int .i64 m.fa):=block_cell bx 9 _ rfl
 have x10:w0.cell? ⟨w.heap.size,10,none⟩=some (.int .i64 m.fp):=block_cell bx 10 _ rfl
 have x11:w0.cell? ⟨w.heap.size,11,none⟩=some (.int .i64 m.bk):=block_cell bx 11 _ rfl
 have HC:=hide (HM.out w0 hb0)
 have HB0:=hide hb0
 have HBX:=hide bx
 clear HM hb0 bx
 cases B with
 |false=>
  go_enter Tryz.func162,Tryz.ntmps162
  go_wp2_with fail
  clear hw0
  refine HC.out.mono ?_
  rintro e w1 ⟨rfl,hb1⟩
  have HB1:=hide (HB0.out.trans (hb1.mono HB0.out.size))
  clear hb1
  go_wp2
  go_ret
  exact ⟨by simp,HB1.out⟩
 |true=>
  go_enter Tryz.func162,Tryz.ntmps162
  go_wp2_with fail
  clear hw0
  refine HC.out.mono ?_
  rintro e w1 ⟨rfl,hb1⟩
  have HB1:=hide (HB0.out.trans (hb1.mono HB0.out.size))
  have bx1:=hp_on' HBX.out hb1
  have y8:w1.cell? ⟨w.heap.size,8,none⟩=some (.int .i64 st):=block_cell bx1 8 _ rfl
  clear hb1 bx1
  by_cases hst:st≤now
  ·go_wp2
   go_ret
   exact ⟨by simp [hst],HB1.out⟩
  ·go_wp2
   go_ret
   exact ⟨by simp [hst],HB1.out⟩
theorem isWordG_any (n:Int) (w:World):Calls Tryz.prog 136 #[.int .i64 n] w fun e w'=> e=.returned (.bool (decide (0≤n) && decide (n≤65535)))∧w=w':=by
 go_enter Tryz.func136,Tryz.ntmps136
 go_wp2
 all_goals go_ret
 all_goals refine ⟨ret_bool ?_,rfl⟩
 all_goals first|(simp [*];done)|(simp;omega)
theorem isNow_any (n:Int) (w:World):Calls Tryz.prog 99 #[.int .i64 n] w fun e w'=> e=.returned (.bool (decide (0≤n) && decide (n≤99000)))∧w=w':=by
 go_enter Tryz.func99,Tryz.ntmps99
 go_wp2
 all_goals go_ret
 all_goals refine ⟨ret_bool ?_,rfl⟩
 all_goals first|(simp [*];done)|(simp;omega)
theorem isTally_any (n:Int) (w:World):Calls Tryz.prog 100 #[.int .i64 n] w fun e w'=> e=.returned (.bool (decide (0≤n) && decide (n≤100000)))∧w=w':=by
 go_enter Tryz.func100,Tryz.ntmps100
 go_wp2
 all_goals go_ret
 all_goals refine ⟨ret_bool ?_,rfl⟩
 all_goals first|(simp [*];done)|(simp;omega)
theorem gotOk_any (a p bk sq:Int) (w:World):
  Calls Tryz.prog 163 #[.agg #[.int .i64 a,.int .i64 p,.int .i64 bk,.int .i64 sq]] w fun e w'=> e=.returned (.bool (flowOkB a p && decide (0≤bk) && decide (bk < 6) && decide (0≤sq) && decide (sq≤65535)))∧Below w.heap.size w w':=by
 obtain ⟨w0,hw0⟩:∃W,w.alloc (.cells #[.int .i64 a,.int .i64 p,.int .i64 bk,.int .i64 sq] 98)=W:=⟨_,rfl⟩
 have hb0:Below w.heap.size w w0:=by rw [←hw0];exact (Below.refl _ _).alloc (Nat.le_refl _) _
 have bx:w0.heap[w.heap.size]? =some (.cells #[.int .i64 a,.int .i64 p,.int .i64 bk,.int .i64 sq] 98 (0,0)):=by rw [←hw0];exact World.alloc_heap_new _ _
 have x0:w0.cell? ⟨w.heap.size,0,none⟩=some (.int .i64 a):=block_cell bx 0 _ rfl
 have x1:w0.cell? ⟨w.heap.size,1,none⟩=some (.int .i64 p):=block_cell bx 1 _ rfl
 have HB0:=hide hb0
 have HBX:=hide bx
 clear hb0 bx
 obtain ⟨F,hF⟩:∃F,flowOkB a p=F:=⟨_,rfl⟩
 have HC:=hide (implFlowOk_any a p w0)
 rw [hF] at HC
 rw [hF]
 clear hF
 cases F with
 |false=>
  go_enter Tryz.func163,Tryz.ntmps163
  go_wp2_with fail
  clear hw0
  refine HC.out.mono ?_
  rintro e w1 ⟨rfl,hb1⟩
  have HB1:=hide (HB0.out.trans (hb1.mono HB0.out.size))
  clear hb1
  go_wp2
  go_ret
  exact ⟨by simp,HB1.out⟩
 |true=>
  go_enter Tryz.func163,Tryz.ntmps163
  go_wp2_with fail
  clear hw0
  refine HC.out.mono ?_
  rintro e w1 ⟨rfl,hb1⟩
  have HB1:=hide (HB0.out.trans (hb1.mono HB0.out.size))
  have bx1:=hp_on' HBX.out hb1
  have y2:w1.cell? ⟨w.heap.size,2,none⟩=some (.int .i64 bk):=block_cell bx1 2 _ rfl
  have y3:w1.cell? ⟨w.heap.size,3,none⟩=some (.int .i64 sq):=block_cell bx1 3 _ rfl
  clear hb1 bx1 x0 x1
  obtain ⟨B,hB⟩:∃B,(decide (0≤bk) && decide (bk < 6))=B:=⟨_,rfl⟩
  obtain ⟨S,hS⟩:∃S,(decide (0≤sq) && decide (sq≤65535))=S:=⟨_,rfl⟩
  have HA:=hide (isBackA_any bk w1)
  have HW:=hide (isWordG_any sq w1)
  rw [hB] at HA
  rw [hS] at HW
  have HE:Hid ((true && decide (0≤bk) && decide (bk < 6) && decide (0≤sq) && decide (sq≤65535))=(B && S)):=by unfold Hid;rw [←hB,←hS];simp [Bool.and_assoc]
  clear hB hS
  cases B with
  |false=>
   go_wp2_with fail
   refine HA.out.mono ?_
   rintro e w2 ⟨rfl,rfl⟩
   go_wp2
   go_ret
   exact ⟨by rw [HE.out];rfl,HB1.out⟩
  |true=>
   go_wp2_with fail
   refine HA.out.mono ?_
   rintro e w2 ⟨rfl,rfl⟩
   go_wp2_with fail
   refine HW.out.mono ?_
   rintro e w2 ⟨rfl,rfl⟩
   go_wp2
   go_ret
   exact ⟨by rw [HE.out];rfl,HB1.out⟩
end Go.Proofs.YtgplppfbinfelaaGreat
