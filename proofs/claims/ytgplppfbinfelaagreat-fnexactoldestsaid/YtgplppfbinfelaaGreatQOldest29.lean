/- Several texts in one: SNext, SNext2, SNext3, ShC. -/
import Derived.Test.YtgplppfbinfelaaGreatQOldest25
import Derived.Test.YtgplppfbinfelaaGreatQOldest27
import Derived.Test.YtgplppfbinfelaaGreatQOldest28
namespace Go.Proofs.YtgplppfbinfelaaGreat
open Go.ChangeShapes Go.WideShapes Go.ChangeAt Go.RowKit Go.Joins
set_option linter.unusedVariables false
set_option linter.unusedSimpArgs false
set_option maxRecDepth 100000
set_option maxHeartbeats 40000000
theorem clonePacket_any (a b f s:Int) (o:Option Addr) (cap:Nat) (l:List Int) (w:World) (hR:Rd w o l) (hnil:o=none→cap=0) (hl:l.length≤1048576):
  Calls Tryz.prog 183 #[pkt a b f s (.slice o l.length cap)] w fun e w'=> ∃v,e=.returned (pkt a b f s v)∧ownB w' w.heap.size v l∧Below w.heap.size w w':=by
 have hb0:Below w.heap.size w ((w.alloc (.cells #[.int .i64 a,.int .i64 b,.int .i64 f,.int .i64 s,.slice o l.length cap] 91)).alloc (.cells #[.int .i64 0,.int .i64 0,.int .i64 0,.int .i64 0,.slice none 0 0] 91)):=((Below.refl _ _).alloc (Nat.le_refl _) _).alloc (by simp) _
 have hs0:((w.alloc (.cells #[.int .i64 a,.int .i64 b,.int .i64 f,.int .i64 s,.slice o l.length cap] 91)).alloc (.cells #[.int .i64 0,.int .i64 0,.int .i64 0,.int .i64 0,.slice none 0 0] 91)).heap.size=w.heap.size+2:=by simp
 have p0:boxed w.heap.size a b f s (.slice o l.length cap) ((w.alloc (.cells #[.int .i64 a,.int .i64 b,.int .i64 f,.int .i64 s,.slice o l.length cap] 91)).alloc (.cells #[.int .i64 0,.int .i64 0,.int .i64 0,.int .i64 0,.slice none 0 0] 91)):=by unfold boxed;simp
 have r0:empty5 (w.heap.size+1) ((w.alloc (.cells #[.int .i64 a,.int .i64 b,.int .i64 f,.int .i64 s,.slice o l.length cap] 91)).alloc (.cells #[.int .i64 0,.int .i64 0,.int .i64 0,.int .i64 0,.slice none 0 0] 91)):=by
  have:=empty5_new (w.alloc (.cells #[.int .i64 a,.int .i64 b,.int .i64 f,.int .i64 s,.slice o l.length cap] 91)) 91
  simpa only [World.size_alloc] using this
 have f4:((w.alloc (.cells #[.int .i64 a,.int .i64 b,.int .i64 f,.int .i64 s,.slice o l.length cap] 91)).alloc (.cells #[.int .i64 0,.int .i64 0,.int .i64 0,.int .i64 0,.slice none 0 0] 91)).frozen? ⟨w.heap.size,4,none⟩=false:=by simp
 go_enter Tryz.func183,Tryz.ntmps183
 go_wp2_with (at_builtin;refine wpList_append_bytes rfl _ _ rfl (w.heap.size+2) (.slice none 0 0) [] rfl (World.ownsRow_nil _ _ _ _) o cap l rfl hnil (hR.kept hb0) ?c1 ?c2 ?_)
 case c1=> simp;omega
 case c2=> omega
 generalize ((w.alloc (.cells #[.int .i64 a,.int .i64 b,.int .i64 f,.int .i64 s,.slice o l.length cap] 91)).alloc (.cells #[.int .i64 0,.int .i64 0,.int .i64 0,.int .i64 0,.slice none 0 0] 91))=w0 at *
 intro v w1 hv hg hb1
 replace hv:ownB w1 (w.heap.size+2) v l:=hv
 obtain ⟨ov,cv,hve,_⟩:=hv.open
 subst hve
 replace p0:=p0.kept hb1 (by omega)
 replace r0:=r0.kept hb1 (by omega)
 replace f4:=(hb1.frozen (p:=⟨w.heap.size,4,none⟩) (by show w.heap.size < w.heap.size+2;omega)).trans f4
 have HB:=hide (hb0.trans (hb1.mono (by omega)))
 have HV:=hide hv
 clear hb0 hb1 hv hg hR
 obtain ⟨x0,x1,x2,x3,x4⟩:=p0
 obtain ⟨⟨y0,y1,y2,y3,y4⟩,g0,g1,g2,g3,g4⟩:=r0
 go_wp2
 refine bodyPost_ret (v:=pkt a b f s (.slice ov l.length cv)) (by simp [results,Tryz.results183,go_sem,y0,y1,y2,y3,y4]) rfl ⟨_,rfl, ?_, ?_⟩
 ·refine own_mono (base:=w.heap.size+2) ?_ (by omega)
  repeat (refine ownsRow_setCell_below ?_ (by simp <;> omega) _)
  exact HV.out
 ·repeat (refine Below.setCell ?_ (by simp <;> omega) _)
  exact HB.out
theorem box_set (w:World) (k j:Nat) (cs:Array Value) (t:TypeId) (v:Value) (h:w.heap[k]? =some (.cells cs t (0,0))):(w.setCell ⟨k,j,none⟩ v).heap[k]? =some (.cells (cs.setIfInBounds j v) t (0,0)):=by
 simp [World.setCell,Array.getElem?_modify,h]
theorem box_farN (w:World) (k q j:Nat) (v:Value) (h:k≠q):(w.setCell ⟨q,j,none⟩ v).heap[k]? =w.heap[k]? :=Below.heap_setCell w ⟨q,j,none⟩ v k h
theorem cloneCarrier_any (a b f s:Int) (o og:Option Addr) (cap cg:Nat) (l:List Int) (g:List (Int × Int)) (pl st:Int) (w:World) (hR:Rd w o l) (hnil:o=none→cap=0) (hl:l.length≤1048576) (hG:RdG w og g) (hnilg:og=none→cg=0) (hgl:g.length≤1048576):
  Calls Tryz.prog 134 #[crr a b f s (.slice o l.length cap) (.slice og g.length cg) pl st] w fun e w'=> ∃v vg,e=.returned (crr a b f s v vg pl st)∧ownB w' w.heap.size v l∧ownG w' w.heap.size vg g∧Below w.heap.size w w':=by
 have hb0:Below w.heap.size w ((w.alloc (.cells #[.int .i64 a,.int .i64 b,.int .i64 f,.int .i64 s,.slice o l.length cap,.slice og g.length cg,.int .i64 pl,.int .i64 st] 94)).alloc (.cells #[.int .i64 0,.int .i64 0,.int .i64 0,.int .i64 0,.slice none 0 0,.slice none 0 0,.int .i64 0,.int .i64 0] 94)):=((Below.refl _ _).alloc (Nat.le_refl _) _).alloc (by simp) _
 have hs0:((w.alloc (.cells #[.int .i64 a,.int .i64 b,.int .i64 f,.int .i64 s,.slice o l.length cap,.slice og g.length cg,.int .i64 pl,.int .i64 st] 94)).alloc (.cells #[.int .i64 0,.int .i64 0,.int .i64 0,.int .i64 0,.slice none 0 0,.slice none 0 0,.int .i64 0,.int .i64 0] 94)).heap.size=w.heap.size+2:=by simp
 have bx:((w.alloc (.cells #[.int .i64 a,.int .i64 b,.int .i64 f,.int .i64 s,.slice o l.length cap,.slice og g.length cg,.int .i64 pl,.int .i64 st] 94)).alloc (.cells #[.int .i64 0,.int .i64 0,.int .i64 0,.int .i64 0,.slice none 0 0,.slice none 0 0,.int .i64 0,.int .i64 0] 94)).heap[w.heap.size]? =some (.cells #[.int .i64 a,.int .i64 b,.int .i64 f,.int .i64 s,.slice o l.length cap,.slice og g.length cg,.int .i64 pl,.int .i64 st] 94 (0,0)):=(Below.heap_alloc (w.alloc (.cells #[.int .i64 a,.int .i64 b,.int .i64 f,.int .i64 s,.slice o l.length cap,.slice og g.length cg,.int .i64 pl,.int .i64 st] 94)) (.cells #[.int .i64 0,.int .i64 0,.int .i64 0,.int .i64 0,.slice none 0 0,.slice none 0 0,.int .i64 0,.int .i64 0] 94) w.heap.size (by simp)).trans (World.alloc_heap_new w (.cells #[.int .i64 a,.int .i64 b,.int .i64 f,.int .i64 s,.slice o l.length cap,.slice og g.length cg,.int .i64 pl,.int .i64 st] 94))
 have rx:((w.alloc (.cells #[.int .i64 a,.int .i64 b,.int .i64 f,.int .i64 s,.slice o l.length cap,.slice og g.length cg,.int .i64 pl,.int .i64 st] 94)).alloc (.cells #[.int .i64 0,.int .i64 0,.int .i64 0,.int .i64 0,.slice none 0 0,.slice none 0 0,.int .i64 0,.int .i64 0] 94)).heap[w.heap.size+1]? =some (.cells #[.int .i64 0,.int .i64 0,.int .i64 0,.int .i64 0,.slice none 0 0,.slice none 0 0,.int .i64 0,.int .i64 0] 94 (0,0)):=by
  have:=World.alloc_heap_new (w.alloc (.cells #[.int .i64 a,.int .i64 b,.int .i64 f,.int .i64 s,.slice o l.length cap,.slice og g.length cg,.int .i64 pl,.int .i64 st] 94)) (.cells #[.int .i64 0,.int .i64 0,.int .i64 0,.int .i64 0,.slice none 0 0,.slice none 0 0,.int .i64 0,.int .i64 0] 94)
  simpa only [World.size_alloc] using this
 go_enter Tryz.func134,Tryz.ntmps134
 go_wp2_with fail
 generalize ((w.alloc (.cells #[.int .i64 a,.int .i64 b,.int .i64 f,.int .i64 s,.slice o l.length cap,.slice og g.length cg,.int .i64 pl,.int .i64 st] 94)).alloc (.cells #[.int .i64 0,.int .i64 0,.int .i64 0,.int .i64 0,.slice none 0 0,.slice none 0 0,.int .i64 0,.int .i64 0] 94))=w0 at *
 refine (clonePacket_any a b f s o cap l w0 (hR.kept hb0) hnil hl).mono ?_
 rintro e w1 ⟨v1,rfl,hv1,hb1⟩
 obtain ⟨o1,c1,hv1e,_⟩:=hv1.open
 subst hv1e
 replace bx:=(hb1.block _ (by omega)).trans bx
 replace rx:=(hb1.block _ (by omega)).trans rx
 have hs1:w.heap.size+2≤w1.heap.size:=by have:=hb1.size;omega
 have hB1:Below w.heap.size w w1:=hb0.trans (hb1.mono (by omega))
 rw [hs0] at hv1
 have bx5:(((((w1.setCell ⟨w.heap.size,0,none⟩ (.int .i64 a)).setCell ⟨w.heap.size,1,none⟩ (.int .i64 b)).setCell ⟨w.heap.size,2,none⟩ (.int .i64 f)).setCell ⟨w.heap.size,3,none⟩ (.int .i64 s)).setCell ⟨w.heap.size,4,none⟩ (.slice o1 l.length c1)).heap[w.heap.size]? =some (.cells #[.int .i64 a,.int .i64 b,.int .i64 f,.int .i64 s,.slice o1 l.length c1,.slice og g.length cg,.int .i64 pl,.int .i64 st] 94 (0,0)):=(box_set _ w.heap.size 4 _ _ (.slice o1 l.length c1) (box_set _ w.heap.size 3 _ _ (.int .i64 s) (box_set _ w.heap.size 2 _ _ (.int .i64 f) (box_set _ w.heap.size 1 _ _ (.int .i64 b) (box_set _ w.heap.size 0 _ _ (.int .i64 a) bx)))))
 have rx5:(((((w1.setCell ⟨w.heap.size,0,none⟩ (.int .i64 a)).setCell ⟨w.heap.size,1,none⟩ (.int .i64 b)).setCell ⟨w.heap.size,2,none⟩ (.int .i64 f)).setCell ⟨w.heap.size,3,none⟩ (.int .i64 s)).setCell ⟨w.heap.size,4,none⟩ (.slice o1 l.length c1)).heap[w.heap.size+1]? =some (.cells #[.int .i64 0,.int .i64 0,.int .i64 0,.int .i64 0,.slice none 0 0,.slice none 0 0,.int .i64 0,.int .i64 0] 94 (0,0)):=by
  rw [box_farN _ _ _ _ _ (by omega),box_farN _ _ _ _ _ (by omega),box_farN _ _ _ _ _ (by omega),box_farN _ _ _ _ _ (by omega),box_farN _ _ _ _ _ (by omega)];exact rx
 have B5:Below w.heap.size w (((((w1.setCell ⟨w.heap.size,0,none⟩ (.int .i64 a)).setCell ⟨w.heap.size,1,none⟩ (.int .i64 b)).setCell ⟨w.heap.size,2,none⟩ (.int .i64 f)).setCell ⟨w.heap.size,3,none⟩ (.int .i64 s)).setCell ⟨w.heap.size,4,none⟩ (.slice o1 l.length c1)):=by
  repeat (refine Below.setCell ?_ (by simp) _)
  exact hB1
 have own5:ownB (((((w1.setCell ⟨w.heap.size,0,none⟩ (.int .i64 a)).setCell ⟨w.heap.size,1,none⟩ (.int .i64 b)).setCell ⟨w.heap.size,2,none⟩ (.int .i64 f)).setCell ⟨w.heap.size,3,none⟩ (.int .i64 s)).setCell ⟨w.heap.size,4,none⟩ (.slice o1 l.length c1)) (w.heap.size+2) (.slice o1 l.length c1) l:=by
  repeat (refine ownsRow_setCell_below ?_ (by simp) _)
  exact hv1
 have hs5:w.heap.size+2≤(((((w1.setCell ⟨w.heap.size,0,none⟩ (.int .i64 a)).setCell ⟨w.heap.size,1,none⟩ (.int .i64 b)).setCell ⟨w.heap.size,2,none⟩ (.int .i64 f)).setCell ⟨w.heap.size,3,none⟩ (.int .i64 s)).setCell ⟨w.heap.size,4,none⟩ (.slice o1 l.length c1)).heap.size:=by simpa [World.setCell] using hs1
 have x0:w1.cell? ⟨w.heap.size,0,none⟩=some (.int .i64 a):=block_cell bx 0 _ rfl
 have fx0:w1.frozen? ⟨w.heap.size,0,none⟩=false:=block_frozen bx 0
 have x1:w1.cell? ⟨w.heap.size,1,none⟩=some (.int .i64 b):=block_cell bx 1 _ rfl
 have fx1:w1.frozen? ⟨w.heap.size,1,none⟩=false:=block_frozen bx 1
 have x2:w1.cell? ⟨w.heap.size,2,none⟩=some (.int .i64 f):=block_cell bx 2 _ rfl
 have fx2:w1.frozen? ⟨w.heap.size,2,none⟩=false:=block_frozen bx 2
 have x3:w1.cell? ⟨w.heap.size,3,none⟩=some (.int .i64 s):=block_cell bx 3 _ rfl
 have fx3:w1.frozen? ⟨w.heap.size,3,none⟩=false:=block_frozen bx 3
 have x4:w1.cell? ⟨w.heap.size,4,none⟩=some (.slice o l.length cap):=block_cell bx 4 _ rfl
 have fx4:w1.frozen? ⟨w.heap.size,4,none⟩=false:=block_frozen bx 4
 have x5:w1.cell? ⟨w.heap.size,5,none⟩=some (.slice og g.length cg):=block_cell bx 5 _ rfl
 have fx5:w1.frozen? ⟨w.heap.size,5,none⟩=false:=block_frozen bx 5
 have x6:w1.cell? ⟨w.heap.size,6,none⟩=some (.int .i64 pl):=block_cell bx 6 _ rfl
 have fx6:w1.frozen? ⟨w.heap.size,6,none⟩=false:=block_frozen bx 6
 have x7:w1.cell? ⟨w.heap.size,7,none⟩=some (.int .i64 st):=block_cell bx 7 _ rfl
 have fx7:w1.frozen? ⟨w.heap.size,7,none⟩=false:=block_frozen bx 7
 clear hb0 hb1 hv1 hB1 bx rx
 have HB5:=hide B5
 have HO5:=hide own5
 have HS5:=hide hs5
 have HX5:=hide bx5
 have HY5:=hide rx5
 have hlt1:w.heap.size < w1.heap.size:=by omega
 clear B5 own5 hs5 bx5 rx5
 go_wp2_with (at_builtin;refine wpList_append_lay appG rfl _ _ rfl (w.heap.size+2) _ [] rfl (World.ownsRow_nil _ _ _ _) og cg w.heap.size g g.length rfl rfl hnilg ?c0 ?c1 ?c2 ?_)
 case c1=> simp;omega
 case c0=> exact (hG.lay).kept HB5.out (Nat.le_refl _)
 case c2=> exact HS5.out
 have B5:=HB5.out
 have own5:=HO5.out
 have hs5:=HS5.out
 have bx5:=HX5.out
 have rx5:=HY5.out
 clear HB5 HO5 HS5 HX5 HY5
 clear x0 fx0 x1 fx1 x2 fx2 x3 fx3 x4 fx4 x5 fx5 x6 fx6 x7 fx7
 generalize (((((w1.setCell ⟨w.heap.size,0,none⟩ (.int .i64 a)).setCell ⟨w.heap.size,1,none⟩ (.int .i64 b)).setCell ⟨w.heap.size,2,none⟩ (.int .i64 f)).setCell ⟨w.heap.size,3,none⟩ (.int .i64 s)).setCell ⟨w.heap.size,4,none⟩ (.slice o1 l.length c1))=w5 at *
 intro v2 w6 hv2 hg2 _
 have b6:Below (w.heap.size+2) w5 w6:=(Below.refl _ _).grown hg2 hs5 (fun k h=> by cases h)
 have hv2':ownG w6 (w.heap.size+2) v2 g:=ownG_lay.2 hv2
 have own6:ownB w6 (w.heap.size+2) (.slice o1 l.length c1) l:=by
  refine own5.kept hg2 ?_
  cases hob:(Value.slice o1 l.length c1).ownBlock with
  |none=> exact .inl rfl
  |some q=> right;intro h;cases h
 obtain ⟨o2,c2,hv2e,_⟩:=hv2'.open
 subst hv2e
 have HB6:=hide (B5.trans (b6.mono (by omega)))
 replace bx5:=(b6.block _ (by omega)).trans bx5
 replace rx5:=(b6.block _ (by omega)).trans rx5
 have HV2:=hide hv2'
 have HV1:=hide own6
 have x0:w6.cell? ⟨w.heap.size,0,none⟩=some (.int .i64 a):=block_cell bx5 0 _ rfl
 have fx0:w6.frozen? ⟨w.heap.size,0,none⟩=false:=block_frozen bx5 0
 have x1:w6.cell? ⟨w.heap.size,1,none⟩=some (.int .i64 b):=block_cell bx5 1 _ rfl
 have fx1:w6.frozen? ⟨w.heap.size,1,none⟩=false:=block_frozen bx5 1
 have x2:w6.cell? ⟨w.heap.size,2,none⟩=some (.int .i64 f):=block_cell bx5 2 _ rfl
 have fx2:w6.frozen? ⟨w.heap.size,2,none⟩=false:=block_frozen bx5 2
 have x3:w6.cell? ⟨w.heap.size,3,none⟩=some (.int .i64 s):=block_cell bx5 3 _ rfl
 have fx3:w6.frozen? ⟨w.heap.size,3,none⟩=false:=block_frozen bx5 3
 have x4:w6.cell? ⟨w.heap.size,4,none⟩=some (.slice o1 l.length c1):=block_cell bx5 4 _ rfl
 have fx4:w6.frozen? ⟨w.heap.size,4,none⟩=false:=block_frozen bx5 4
 have x5:w6.cell? ⟨w.heap.size,5,none⟩=some (.slice og g.length cg):=block_cell bx5 5 _ rfl
 have fx5:w6.frozen? ⟨w.heap.size,5,none⟩=false:=block_frozen bx5 5
 have x6:w6.cell? ⟨w.heap.size,6,none⟩=some (.int .i64 pl):=block_cell bx5 6 _ rfl
 have fx6:w6.frozen? ⟨w.heap.size,6,none⟩=false:=block_frozen bx5 6
 have x7:w6.cell? ⟨w.heap.size,7,none⟩=some (.int .i64 st):=block_cell bx5 7 _ rfl
 have fx7:w6.frozen? ⟨w.heap.size,7,none⟩=false:=block_frozen bx5 7
 have y0:w6.cell? ⟨w.heap.size+1,0,none⟩=some (.int .i64 0):=block_cell rx5 0 _ rfl
 have fy0:w6.frozen? ⟨w.heap.size+1,0,none⟩=false:=block_frozen rx5 0
 have y1:w6.cell? ⟨w.heap.size+1,1,none⟩=some (.int .i64 0):=block_cell rx5 1 _ rfl
 have fy1:w6.frozen? ⟨w.heap.size+1,1,none⟩=false:=block_frozen rx5 1
 have y2:w6.cell? ⟨w.heap.size+1,2,none⟩=some (.int .i64 0):=block_cell rx5 2 _ rfl
 have fy2:w6.frozen? ⟨w.heap.size+1,2,none⟩=false:=block_frozen rx5 2
 have y3:w6.cell? ⟨w.heap.size+1,3,none⟩=some (.int .i64 0):=block_cell rx5 3 _ rfl
 have fy3:w6.frozen? ⟨w.heap.size+1,3,none⟩=false:=block_frozen rx5 3
 have y4:w6.cell? ⟨w.heap.size+1,4,none⟩=some (.slice none 0 0):=block_cell rx5 4 _ rfl
 have fy4:w6.frozen? ⟨w.heap.size+1,4,none⟩=false:=block_frozen rx5 4
 have y5:w6.cell? ⟨w.heap.size+1,5,none⟩=some (.slice none 0 0):=block_cell rx5 5 _ rfl
 have fy5:w6.frozen? ⟨w.heap.size+1,5,none⟩=false:=block_frozen rx5 5
 have y6:w6.cell? ⟨w.heap.size+1,6,none⟩=some (.int .i64 0):=block_cell rx5 6 _ rfl
 have fy6:w6.frozen? ⟨w.heap.size+1,6,none⟩=false:=block_frozen rx5 6
 have y7:w6.cell? ⟨w.heap.size+1,7,none⟩=some (.int .i64 0):=block_cell rx5 7 _ rfl
 have fy7:w6.frozen? ⟨w.heap.size+1,7,none⟩=false:=block_frozen rx5 7
 clear hv2 hv2' own6 own5 B5 b6 hg2 bx5 hs5 hR hG
 have r0:(w6.setCell ⟨w.heap.size,5,none⟩ (.slice o2 g.length c2)).heap[w.heap.size+1]? =some (.cells #[.int .i64 0,.int .i64 0,.int .i64 0,.int .i64 0,.slice none 0 0,.slice none 0 0,.int .i64 0,.int .i64 0] 94 (0,0)):=((box_farN w6 (w.heap.size+1) w.heap.size 5 (.slice o2 g.length c2) (by omega)).trans rx5)
 have r1:((w6.setCell ⟨w.heap.size,5,none⟩ (.slice o2 g.length c2)).setCell ⟨w.heap.size+1,0,none⟩ (.int .i64 a)).heap[w.heap.size+1]? =some (.cells #[.int .i64 a,.int .i64 0,.int .i64 0,.int .i64 0,.slice none 0 0,.slice none 0 0,.int .i64 0,.int .i64 0] 94 (0,0)):=box_set (w6.setCell ⟨w.heap.size,5,none⟩ (.slice o2 g.length c2)) (w.heap.size+1) 0 _ _ (.int .i64 a) r0
 have r2:(((w6.setCell ⟨w.heap.size,5,none⟩ (.slice o2 g.length c2)).setCell ⟨w.heap.size+1,0,none⟩ (.int .i64 a)).setCell ⟨w.heap.size+1,1,none⟩ (.int .i64 b)).heap[w.heap.size+1]? =some (.cells #[.int .i64 a,.int .i64 b,.int .i64 0,.int .i64 0,.slice none 0 0,.slice none 0 0,.int .i64 0,.int .i64 0] 94 (0,0)):=box_set ((w6.setCell ⟨w.heap.size,5,none⟩ (.slice o2 g.length c2)).setCell ⟨w.heap.size+1,0,none⟩ (.int .i64 a)) (w.heap.size+1) 1 _ _ (.int .i64 b) r1
 have r3:((((w6.setCell ⟨w.heap.size,5,none⟩ (.slice o2 g.length c2)).setCell ⟨w.heap.size+1,0,none⟩ (.int .i64 a)).setCell ⟨w.heap.size+1,1,none⟩ (.int .i64 b)).setCell ⟨w.heap.size+1,2,none⟩ (.int .i64 f)).heap[w.heap.size+1]? =some (.cells #[.int .i64 a,.int .i64 b,.int .i64 f,.int .i64 0,.slice none 0 0,.slice none 0 0,.int .i64 0,.int .i64 0] 94 (0,0)):=box_set (((w6.setCell ⟨w.heap.size,5,none⟩ (.slice o2 g.length c2)).setCell ⟨w.heap.size+1,0,none⟩ (.int .i64 a)).setCell ⟨w.heap.size+1,1,none⟩ (.int .i64 b)) (w.heap.size+1) 2 _ _ (.int .i64 f) r2
 have r4:(((((w6.setCell ⟨w.heap.size,5,none⟩ (.slice o2 g.length c2)).setCell ⟨w.heap.size+1,0,none⟩ (.int .i64 a)).setCell ⟨w.heap.size+1,1,none⟩ (.int .i64 b)).setCell ⟨w.heap.size+1,2,none⟩ (.int .i64 f)).setCell ⟨w.heap.size+1,3,none⟩ (.int .i64 s)).heap[w.heap.size+1]? =some (.cells #[.int .i64 a,.int .i64 b,.int .i64 f,.int .i64 s,.slice none 0 0,.slice none 0 0,.int .i64 0,.int .i64 0] 94 (0,0)):=box_set ((((w6.setCell ⟨w.heap.size,5,none⟩ (.slice o2 g.length c2)).setCell ⟨w.heap.size+1,0,none⟩ (.int .i64 a)).setCell ⟨w.heap.size+1,1,none⟩ (.int .i64 b)).setCell ⟨w.heap.size+1,2,none⟩ (.int .i64 f)) (w.heap.size+1) 3 _ _ (.int .i64 s) r3
 have r5:((((((w6.setCell ⟨w.heap.size,5,none⟩ (.slice o2 g.length c2)).setCell ⟨w.heap.size+1,0,none⟩ (.int .i64 a)).setCell ⟨w.heap.size+1,1,none⟩ (.int .i64 b)).setCell ⟨w.heap.size+1,2,none⟩ (.int .i64 f)).setCell ⟨w.heap.size+1,3,none⟩ (.int .i64 s)).setCell ⟨w.heap.size+1,4,none⟩ (.slice o1 l.length c1)).heap[w.heap.size+1]? =some (.cells #[.int .i64 a,.int .i64 b,.int .i64 f,.int .i64 s,.slice o1 l.length c1,.slice none 0 0,.int .i64 0,.int .i64 0] 94 (0,0)):=box_set (((((w6.setCell ⟨w.heap.size,5,none⟩ (.slice o2 g.length c2)).setCell ⟨w.heap.size+1,0,none⟩ (.int .i64 a)).setCell ⟨w.heap.size+1,1,none⟩ (.int .i64 b)).setCell ⟨w.heap.size+1,2,none⟩ (.int .i64 f)).setCell ⟨w.heap.size+1,3,none⟩ (.int .i64 s)) (w.heap.size+1) 4 _ _ (.slice o1 l.length c1) r4
 have r6:(((((((w6.setCell ⟨w.heap.size,5,none⟩ (.slice o2 g.length c2)).setCell ⟨w.heap.size+1,0,none⟩ (.int .i64 a)).setCell ⟨w.heap.size+1,1,none⟩ (.int .i64 b)).setCell ⟨w.heap.size+1,2,none⟩ (.int .i64 f)).setCell ⟨w.heap.size+1,3,none⟩ (.int .i64 s)).setCell ⟨w.heap.size+1,4,none⟩ (.slice o1 l.length c1)).setCell ⟨w.heap.size+1,5,none⟩ (.slice o2 g.length c2)).heap[w.heap.size+1]? =some (.cells #[.int .i64 a,.int .i64 b,.int .i64 f,.int .i64 s,.slice o1 l.length c1,.slice o2 g.length c2,.int .i64 0,.int .i64 0] 94 (0,0)):=box_set ((((((w6.setCell ⟨w.heap.size,5,none⟩ (.slice o2 g.length c2)).setCell ⟨w.heap.size+1,0,none⟩ (.int .i64 a)).setCell ⟨w.heap.size+1,1,none⟩ (.int .i64 b)).setCell ⟨w.heap.size+1,2,none⟩ (.int .i64 f)).setCell ⟨w.heap.size+1,3,none⟩ (.int .i64 s)).setCell ⟨w.heap.size+1,4,none⟩ (.slice o1 l.length c1)) (w.heap.size+1) 5 _ _ (.slice o2 g.length c2) r5
 have r7:((((((((w6.setCell ⟨w.heap.size,5,none⟩ (.slice o2 g.length c2)).setCell ⟨w.heap.size+1,0,none⟩ (.int .i64 a)).setCell ⟨w.heap.size+1,1,none⟩ (.int .i64 b)).setCell ⟨w.heap.size+1,2,none⟩ (.int .i64 f)).setCell ⟨w.heap.size+1,3,none⟩ (.int .i64 s)).setCell ⟨w.heap.size+1,4,none⟩ (.slice o1 l.length c1)).setCell ⟨w.heap.size+1,5,none⟩ (.slice o2 g.length c2)).setCell ⟨w.heap.size+1,6,none⟩ (.int .i64 pl)).heap[w.heap.size+1]? =some (.cells #[.int .i64 a,.int .i64 b,.int .i64 f,.int .i64 s,.slice o1 l.length c1,.slice o2 g.length c2,.int .i64 pl,.int .i64 0] 94 (0,0)):=box_set (((((((w6.setCell ⟨w.heap.size,5,none⟩ (.slice o2 g.length c2)).setCell ⟨w.heap.size+1,0,none⟩ (.int .i64 a)).setCell ⟨w.heap.size+1,1,none⟩ (.int .i64 b)).setCell ⟨w.heap.size+1,2,none⟩ (.int .i64 f)).setCell ⟨w.heap.size+1,3,none⟩ (.int .i64 s)).setCell ⟨w.heap.size+1,4,none⟩ (.slice o1 l.length c1)).setCell ⟨w.heap.size+1,5,none⟩ (.slice o2 g.length c2)) (w.heap.size+1) 6 _ _ (.int .i64 pl) r6
 have r8:(((((((((w6.setCell ⟨w.heap.size,5,none⟩ (.slice o2 g.length c2)).setCell ⟨w.heap.size+1,0,none⟩ (.int .i64 a)).setCell ⟨w.heap.size+1,1,none⟩ (.int .i64 b)).setCell ⟨w.heap.size+1,2,none⟩ (.int .i64 f)).setCell ⟨w.heap.size+1,3,none⟩ (.int .i64 s)).setCell ⟨w.heap.size+1,4,none⟩ (.slice o1 l.length c1)).setCell ⟨w.heap.size+1,5,none⟩ (.slice o2 g.length c2)).setCell ⟨w.heap.size+1,6,none⟩ (.int .i64 pl)).setCell ⟨w.heap.size+1,7,none⟩ (.int .i64 st)).heap[w.heap.size+1]? =some (.cells #[.int .i64 a,.int .i64 b,.int .i64 f,.int .i64 s,.slice o1 l.length c1,.slice o2 g.length c2,.int .i64 pl,.int .i64 st] 94 (0,0)):=box_set ((((((((w6.setCell ⟨w.heap.size,5,none⟩ (.slice o2 g.length c2)).setCell ⟨w.heap.size+1,0,none⟩ (.int .i64 a)).setCell ⟨w.heap.size+1,1,none⟩ (.int .i64 b)).setCell ⟨w.heap.size+1,2,none⟩ (.int .i64 f)).setCell ⟨w.heap.size+1,3,none⟩ (.int .i64 s)).setCell ⟨w.heap.size+1,4,none⟩ (.slice o1 l.length c1)).setCell ⟨w.heap.size+1,5,none⟩ (.slice o2 g.length c2)).setCell ⟨w.heap.size+1,6,none⟩ (.int .i64 pl)) (w.heap.size+1) 7 _ _ (.int .i64 st) r7
 have rx9:Hid ((((((((((w6.setCell ⟨w.heap.size,5,none⟩ (.slice o2 g.length c2)).setCell ⟨w.heap.size+1,0,none⟩ (.int .i64 a)).setCell ⟨w.heap.size+1,1,none⟩ (.int .i64 b)).setCell ⟨w.heap.size+1,2,none⟩ (.int .i64 f)).setCell ⟨w.heap.size+1,3,none⟩ (.int .i64 s)).setCell ⟨w.heap.size+1,4,none⟩ (.slice o1 l.length c1)).setCell ⟨w.heap.size+1,5,none⟩ (.slice o2 g.length c2)).setCell ⟨w.heap.size+1,6,none⟩ (.int .i64 pl)).setCell ⟨w.heap.size+1,7,none⟩ (.int .i64 st)).heap[w.heap.size+1]? =some (.cells #[.int .i64 a,.int .i64 b,.int .i64 f,.int .i64 s,.slice o1 l.length c1,.slice o2 g.length c2,.int .i64 pl,.int .i64 st] 94 (0,0))):=r8
 clear r0 r1 r2 r3 r4 r5 r6 r7 r8
 have H1:Hid (ownB (((((((((w6.setCell ⟨w.heap.size,5,none⟩ (.slice o2 g.length c2)).setCell ⟨w.heap.size+1,0,none⟩ (.int .i64 a)).setCell ⟨w.heap.size+1,1,none⟩ (.int .i64 b)).setCell ⟨w.heap.size+1,2,none⟩ (.int .i64 f)).setCell ⟨w.heap.size+1,3,none⟩ (.int .i64 s)).setCell ⟨w.heap.size+1,4,none⟩ (.slice o1 l.length c1)).setCell ⟨w.heap.size+1,5,none⟩ (.slice o2 g.length c2)).setCell ⟨w.heap.size+1,6,none⟩ (.int .i64 pl)).setCell ⟨w.heap.size+1,7,none⟩ (.int .i64 st)) (w.heap.size+2) (.slice o1 l.length c1) l):=by
  show ownB _ _ _ _
  repeat (refine ownsRow_setCell_below ?_ (by simp) _)
  exact HV1.out
 have H2:Hid (ownG (((((((((w6.setCell ⟨w.heap.size,5,none⟩ (.slice o2 g.length c2)).setCell ⟨w.heap.size+1,0,none⟩ (.int .i64 a)).setCell ⟨w.heap.size+1,1,none⟩ (.int .i64 b)).setCell ⟨w.heap.size+1,2,none⟩ (.int .i64 f)).setCell ⟨w.heap.size+1,3,none⟩ (.int .i64 s)).setCell ⟨w.heap.size+1,4,none⟩ (.slice o1 l.length c1)).setCell ⟨w.heap.size+1,5,none⟩ (.slice o2 g.length c2)).setCell ⟨w.heap.size+1,6,none⟩ (.int .i64 pl)).setCell ⟨w.heap.size+1,7,none⟩ (.int .i64 st)) (w.heap.size+2) (.slice o2 g.length c2) g):=by
  show ownG _ _ _ _
  repeat (refine ownsRow_setCell_below ?_ (by simp) _)
  exact HV2.out
 have H3:Hid (Below w.heap.size w (((((((((w6.setCell ⟨w.heap.size,5,none⟩ (.slice o2 g.length c2)).setCell ⟨w.heap.size+1,0,none⟩ (.int .i64 a)).setCell ⟨w.heap.size+1,1,none⟩ (.int .i64 b)).setCell ⟨w.heap.size+1,2,none⟩ (.int .i64 f)).setCell ⟨w.heap.size+1,3,none⟩ (.int .i64 s)).setCell ⟨w.heap.size+1,4,none⟩ (.slice o1 l.length c1)).setCell ⟨w.heap.size+1,5,none⟩ (.slice o2 g.length c2)).setCell ⟨w.heap.size+1,6,none⟩ (.int .i64 pl)).setCell ⟨w.heap.size+1,7,none⟩ (.int .i64 st))):=by
  show Below _ _ _
  repeat (refine Below.setCell ?_ (by simp) _)
  exact HB6.out
 clear rx5
 go_wp2
 generalize (((((((((w6.setCell ⟨w.heap.size,5,none⟩ (.slice o2 g.length c2)).setCell ⟨w.heap.size+1,0,none⟩ (.int .i64 a)).setCell ⟨w.heap.size+1,1,none⟩ (.int .i64 b)).setCell ⟨w.heap.size+1,2,none⟩ (.int .i64 f)).setCell ⟨w.heap.size+1,3,none⟩ (.int .i64 s)).setCell ⟨w.heap.size+1,4,none⟩ (.slice o1 l.length c1)).setCell ⟨w.heap.size+1,5,none⟩ (.slice o2 g.length c2)).setCell ⟨w.heap.size+1,6,none⟩ (.int .i64 pl)).setCell ⟨w.heap.size+1,7,none⟩ (.int .i64 st))=w9 at *
 have z0:w9.cell? ⟨w.heap.size+1,0,none⟩=some (.int .i64 a):=block_cell rx9.out 0 _ rfl
 have z1:w9.cell? ⟨w.heap.size+1,1,none⟩=some (.int .i64 b):=block_cell rx9.out 1 _ rfl
 have z2:w9.cell? ⟨w.heap.size+1,2,none⟩=some (.int .i64 f):=block_cell rx9.out 2 _ rfl
 have z3:w9.cell? ⟨w.heap.size+1,3,none⟩=some (.int .i64 s):=block_cell rx9.out 3 _ rfl
 have z4:w9.cell? ⟨w.heap.size+1,4,none⟩=some (.slice o1 l.length c1):=block_cell rx9.out 4 _ rfl
 have z5:w9.cell? ⟨w.heap.size+1,5,none⟩=some (.slice o2 g.length c2):=block_cell rx9.out 5 _ rfl
 have z6:w9.cell? ⟨w.heap.size+1,6,none⟩=some (.int .i64 pl):=block_cell rx9.out 6 _ rfl
 have z7:w9.cell? ⟨w.heap.size+1,7,none⟩=some (.int .i64 st):=block_cell rx9.out 7 _ rfl
 refine bodyPost_ret (v:=crr a b f s (.slice o1 l.length c1) (.slice o2 g.length c2) pl st) (by simp [results,Tryz.results134,go_sem,z0,z1,z2,z3,z4,z5,z6,z7]) rfl ⟨_,_,rfl, ?_, ?_, ?_⟩
 ·exact own_mono (base:=w.heap.size+2) H1.out (by omega)
 ·exact own_mono (base:=w.heap.size+2) H2.out (by omega)
 ·exact H3.out
structure Cm where
 a:Int
 b:Int
 f:Int
 s:Int
 l:List Int
 g:List (Int × Int)
 pl:Int
 st:Int
def Cm.zero:Cm:=⟨0,0,0,0,[],[],0,0⟩
abbrev InG:=InL layG 231
theorem InG.of {w:World} {base:Nat} {v:Value} {l:List (Int × Int)} (h:ownG w base v l):InG base w.heap.size w v l:=InRow.of (ownG_lay.1 h)
theorem RdG_rd {w:World} {o:Option Addr} {l:List (Int × Int)}:RdL layG w.heap.size w o l↔RdG w o l:=by
 constructor
 ·rintro (h|⟨b,off,ho,hb,r⟩)
  ·exact .inl h
  ·exact .inr ⟨b,off,ho,hb,fun i hi=> ⟨r i hi 0 (by decide),r i hi 1 (by decide)⟩⟩
 ·exact RdG.lay
def fitCm (m:Cm):Prop:=m.l.length+m.g.length≤1048576∧isB m.l
end Go.Proofs.YtgplppfbinfelaaGreat
