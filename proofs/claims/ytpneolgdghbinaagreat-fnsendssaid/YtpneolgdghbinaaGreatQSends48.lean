/- Several texts in one: SNext, SNext3, ShC, SHunt, SHunt2. -/
import Derived.Test.YtpneolgdghbinaaGreatQSends47
namespace Go.Proofs.YtpneolgdghbinaaGreat
open Go.ChangeShapes Go.WideShapes Go.ChangeAt Go.RowKit Go.Joins
set_option linter.unusedVariables false
set_option linter.unusedSimpArgs false
set_option maxRecDepth 100000
set_option maxHeartbeats 40000000
theorem Q6M (a b f s:Int) (o:Option Addr) (cap:Nat) (l:List Int) (w:World) (hR:Rd w o l) (hnil:o=none→cap=0) (hl:l.length≤1048576):
  Calls Tryz.prog 106 #[pkt a b f s (.slice o l.length cap)] w fun e w'=> ∃v,e=.returned (pkt a b f s v)∧ownB w' w.heap.size v l∧Below w.heap.size w w':=by
 have hb0:Below w.heap.size w ((w.alloc (.cells #[.int .i64 a,.int .i64 b,.int .i64 f,.int .i64 s,.slice o l.length cap] 38)).alloc (.cells #[.int .i64 0,.int .i64 0,.int .i64 0,.int .i64 0,.slice none 0 0] 38)):=((Below.refl _ _).alloc (Kaq _) _).alloc (by simp) _
 have hs0:((w.alloc (.cells #[.int .i64 a,.int .i64 b,.int .i64 f,.int .i64 s,.slice o l.length cap] 38)).alloc (.cells #[.int .i64 0,.int .i64 0,.int .i64 0,.int .i64 0,.slice none 0 0] 38)).heap.size=w.heap.size+2:=by simp
 have p0:boxed w.heap.size a b f s (.slice o l.length cap) ((w.alloc (.cells #[.int .i64 a,.int .i64 b,.int .i64 f,.int .i64 s,.slice o l.length cap] 38)).alloc (.cells #[.int .i64 0,.int .i64 0,.int .i64 0,.int .i64 0,.slice none 0 0] 38)):=by unfold boxed;simp
 have r0:empty5 (w.heap.size+1) ((w.alloc (.cells #[.int .i64 a,.int .i64 b,.int .i64 f,.int .i64 s,.slice o l.length cap] 38)).alloc (.cells #[.int .i64 0,.int .i64 0,.int .i64 0,.int .i64 0,.slice none 0 0] 38)):=by
  have:=Q5D (w.alloc (.cells #[.int .i64 a,.int .i64 b,.int .i64 f,.int .i64 s,.slice o l.length cap] 38)) 38
  simpa only [World.size_alloc] using this
 have f4:((w.alloc (.cells #[.int .i64 a,.int .i64 b,.int .i64 f,.int .i64 s,.slice o l.length cap] 38)).alloc (.cells #[.int .i64 0,.int .i64 0,.int .i64 0,.int .i64 0,.slice none 0 0] 38)).frozen? ⟨w.heap.size,4,none⟩=false:=by simp
 go_enter Tryz.func106,Tryz.ntmps106
 go_wp2_with (at_builtin;refine Q4F rfl _ _ rfl (w.heap.size+2) (.slice none 0 0) [] rfl (World.ownsRow_nil _ _ _ _) o cap l rfl hnil (hR.kept hb0) ?c1 ?c2 ?_)
 case c1=> simp;omega
 case c2=> omega
 generalize ((w.alloc (.cells #[.int .i64 a,.int .i64 b,.int .i64 f,.int .i64 s,.slice o l.length cap] 38)).alloc (.cells #[.int .i64 0,.int .i64 0,.int .i64 0,.int .i64 0,.slice none 0 0] 38))=w0 at *
 intro v w1 hv hg hb1
 replace hv:ownB w1 (w.heap.size+2) v l:=hv;obtain ⟨ov,cv,hve,_⟩:=hv.open;subst hve
 replace p0:=p0.kept hb1 (by omega)
 replace r0:=r0.kept hb1 (by omega)
 replace f4:=(hb1.frozen (p:=⟨w.heap.size,4,none⟩) (by show w.heap.size < w.heap.size+2;omega)).trans f4
 have HB:=Q02 (hb0.trans (hb1.mono (by omega)))
 have HV:=Q02 hv;clear hb0 hb1 hv hg hR;obtain ⟨x0,x1,x2,x3,x4⟩:=p0;obtain ⟨⟨y0,y1,y2,y3,y4⟩,g0,g1,g2,g3,g4⟩:=r0
 go_wp2
 refine bodyPost_ret (v:=pkt a b f s (.slice ov l.length cv)) (by simp [results,Tryz.results106,go_sem,y0,y1,y2,y3,y4]) rfl ⟨_,rfl, ?_, ?_⟩
 ·refine Q04 (base:=w.heap.size+2) ?_ (by omega)
  repeat (refine ownsRow_setCell_below ?_ (by simp <;> omega) _)
  exact HV.out
 ·repeat (refine Below.setCell ?_ (by simp <;> omega) _)
  exact HB.out
structure Cm where
 a:Int
 b:Int
 f:Int
 s:Int
 l:List Int
 g:List (Int × Int)
 pl:Int
 st:Int
abbrev InG:=InL Q4P 50
theorem Qhj {w:World} {o:Option Addr} {l:List (Int × Int)}:RdL Q4P w.heap.size w o l↔RdG w o l:=by
 constructor
 ·rintro (h|⟨b,off,ho,hb,r⟩)
  ·exact .inl h
  ·exact .inr ⟨b,off,ho,hb,fun i hi=> ⟨r i hi 0 (by decide),r i hi 1 (by decide)⟩⟩
 ·exact RdG.lay
def RdCm (C:Nat) (w:World) (v:Value) (m:Cm):Prop:=∃vl vg,v=crr m.a m.b m.f m.s vl vg m.pl m.st∧RdV QeC C w vl m.l∧RdV Q4P C w vg m.g
def InCm (lo hi:Nat) (w:World) (v:Value) (m:Cm):Prop:=∃vl vg,v=crr m.a m.b m.f m.s vl vg m.pl m.st∧InB lo hi w vl m.l∧InG lo hi w vg m.g
theorem RdCm.le {C D:Nat} {w:World} {v:Value} {m:Cm} (h:RdCm C w v m) (hc:C≤D):RdCm D w v m:=by
 obtain ⟨vl,vg,e,h1,h2⟩:=h
 exact ⟨vl,vg,e,h1.le hc,h2.le hc⟩
theorem InCm.rd {lo hi:Nat} {w:World} {v:Value} {m:Cm} (h:InCm lo hi w v m):RdCm hi w v m:=by
 obtain ⟨vl,vg,e,h1,h2⟩:=h
 exact ⟨vl,vg,e,h1.rd,h2.rd⟩
theorem InCm.step {a b lo hi:Nat} {w w':World} {v:Value} {m:Cm} (h:InCm a b w v m) (s:Stp lo hi w w') (hd:hi≤a∨b≤lo):InCm a b w' v m:=by
 obtain ⟨vl,vg,e,h1,h2⟩:=h
 exact ⟨vl,vg,e,h1.step s hd,h2.step s hd⟩
theorem InCm.mono {lo hi lo' hi':Nat} {w:World} {v:Value} {m:Cm} (h:InCm lo hi w v m) (h1:lo'≤lo) (h2:hi≤hi'):InCm lo' hi' w v m:=by
 obtain ⟨vl,vg,e,q1,q2⟩:=h
 exact ⟨vl,vg,e,q1.mono h1 h2,q2.mono h1 h2⟩
def Q4n (g:List (Int × Int)) (k:Nat):List Int:=((g.take k).filter (fun p=> p.2==1)).map (fun p=> p.1)
theorem Qcs {g:List (Int × Int)} {k:Nat} {x y:Int} (hk:k < g.length) (h:g.getD k (0,0)=(x,y)) (hy:(y==1)=true):Q4n g (k+1)=Q4n g k++[x]:=by
 unfold Q4n
 rw [Q7I g k hk,h,List.filter_append,List.map_append]
 simp [hy]
theorem Qdi {g:List (Int × Int)} {k:Nat} {x y:Int} (hk:k < g.length) (h:g.getD k (0,0)=(x,y)) (hy:(y==1)=false):Q4n g (k+1)=Q4n g k:=by
 unfold Q4n
 rw [Q7I g k hk,h,List.filter_append,List.map_append]
 simp [hy]
end Go.Proofs.YtpneolgdghbinaaGreat
namespace Go.Proofs.YtpneolgdghbinaaGreat
open Go.ChangeShapes Go.WideShapes Go.ChangeAt Go.RowKit Go.Joins Go.Shelf
set_option linter.unusedVariables false
set_option linter.unusedSimpArgs false
set_option maxRecDepth 100000
set_option maxHeartbeats 40000000
attribute [local go_sem] Oper.semAt_some
def Q3Z (pre:List Qaz):List Int:=(pre.filter (fun x=> x.1.2==1)).map (fun x=> x.1.1)
theorem Q9f (pre:List Qaz) (x:Qaz) (h:(x.1.2==1)=true):Q3Z (pre++[x])=Q3Z pre++[x.1.1]:=by
 unfold Q3Z;rw [List.filter_append,List.map_append];simp [h]
theorem Qbh (pre:List Qaz) (x:Qaz) (h:(x.1.2==1)=false):Q3Z (pre++[x])=Q3Z pre:=by
 unfold Q3Z;rw [List.filter_append,List.map_append];simp [h]
theorem QdV (pre:List Qaz):(Q3Z pre).length≤pre.length:=by
 unfold Q3Z;rw [List.length_map];exact List.length_filter_le _ _
theorem Q7V (g:List (Int × Int)) (pl:Int):∀k,k≤g.length→Q3Z (upto (Q2F g pl) k)=Q4n g k
 |0,_=> by simp [Q3Z,upto,Q4n]
 |k+1,hk=> by
  have ih:=Q7V g pl k (by omega)
  obtain ⟨x,y,hxy⟩:∃x y,g.getD k (0,0)=(x,y):=⟨_,_,rfl⟩
  have e:(Q2F g pl k).1=(x,y):=by unfold Q2F;rw [←List.getD_eq_getElem?_getD];exact hxy
  rw [Q51]
  cases h:(y==1) with
  |true=> rw [Q9f _ _ (by rw [e];exact h),Qcs (by omega) hxy h,ih,e]
  |false=> rw [Qbh _ _ (by rw [e];exact h),Qdi (by omega) hxy h,ih]
theorem Q8D {W:World} {B:Nat} {c:Array Value} {t e:TypeId} {z:Nat × Nat} (h:W.heap[B]? =some (.cells c t z)) (hte:t≠e) {base size k:Nat} {v:Value} {xs:List Value} (hr:W.ownsRow base e size v k xs):some B≠v.ownBlock:=by
 rcases hr.2 with ⟨rfl,_⟩|⟨g,cap,cur,rfl,_,hgb,_⟩
 ·simp [Value.ownBlock]
 ·intro e'
  obtain rfl:B=g:=by simpa [Value.ownBlock] using e'
  rw [hgb] at h
  injection h with h
  injection h with _ h _
  exact hte h.symm
theorem QdS:(58:TypeId)≠3:=by decide
theorem Qex:(47:TypeId)≠3:=by decide
theorem Q9G (a b f s:Int) (o:Option Addr) (len cap bb off cg:Nat) (g:List (Int × Int)) (pl st:Int) (w:World) (hl:len≤maxLen) (hgl:g.length≤1048576) (hbb:bb < w.heap.size)
  (hcell:∀i,i < g.length→w.cell? ⟨bb,off+i * 2,none⟩=some (.int .i64 (g.getD i (0,0)).1)∧w.cell? ⟨bb,off+i * 2+1,none⟩=some (.int .i64 (g.getD i (0,0)).2)) (hok:Q1F a b f s len g pl st=true):
  Calls Tryz.prog 47 #[crr a b f s (.slice o len cap) (.slice (some ⟨bb,off,none⟩) g.length cg) pl st] w fun e w'=> ∃v,e=.returned v∧ownL Q2e 3 w' w.heap.size v (Q4n g g.length)∧Below w.heap.size w w':=by
 refine (callsIn_wide (n:=4)).1 ?_
 refine callsIn_of_wp_marks Tryz.func47 rfl trivial ?_ rfl
 simp only [Tryz.ntmps47,List.size_toArray,List.length_cons,List.length_nil,Nat.reduceAdd,Nat.reduceSub,Array.replicate_succ,Array.replicate_zero,List.push_toArray,List.append_toArray,List.nil_append,List.cons_append]
 have hb0:Below w.heap.size w (w.alloc (.cells (Q0w a b f s (.slice o len cap) (.slice (some ⟨bb,off,none⟩) g.length cg) pl st) 58)):=(Below.refl _ _).alloc (Kaq _) _
 have hc:=Q3r a b f s o (some ⟨bb,off,none⟩) len cap cg g pl st (w.alloc (.cells (Q0w a b f s (.slice o len cap) (.slice (some ⟨bb,off,none⟩) g.length cg) pl st) 58)) hl (by unfold maxLen;omega) (RdG.kept (.inr ⟨bb,off,rfl,hbb,hcell⟩) hb0)
 rw [hok] at hc
 have hx0:=World.alloc_heap_new w (.cells (Q0w a b f s (.slice o len cap) (.slice (some ⟨bb,off,none⟩) g.length cg) pl st) 58);have Hb0:=Q02 hb0;have Hx0:=Q02 hx0;clear hb0 hx0
 gi_wp2_with (refine ⟨trivial, ?_⟩;gi_at_call 19;refine (callsIn_wide.2 hc).mono ?_;rintro e w1 ⟨rfl,hb1⟩;have hx1:=(hb1.block w.heap.size (by simp)).trans Hx0.out;have x0:=Q0y hx1 0 _ rfl;have x1:=Q0y hx1 1 _ rfl;have x2:=Q0y hx1 2 _ rfl;have x3:=Q0y hx1 3 _ rfl;have x4:=Q0y hx1 4 _ rfl;have x5:=Q0y hx1 5 _ rfl;have x6:=Q0y hx1 6 _ rfl;have x7:=Q0y hx1 7 _ rfl;have Hx1:=Q02 hx1;clear hx1;have hz1:w.heap.size < w1.heap.size:=(by have h:=hb1.size;simp at h;omega);have Hb1:=Q02 (Hb0.out.trans (hb1.mono (by simp)));clear hb1)
 refine ⟨trivial, ?_⟩
 refine (Qbk Fence.wide (4 - 1) trivial rfl _ _ _ _ _ _ _ _ _).mono ?_
 rintro e w' ⟨rfl,rfl⟩
 clear x0 x1 x2 x3 x4 x5 x6 x7 hc Hx1 Hx0 Hb0;have bP0:Boxed ((w1.alloc (.cells #[.slice none 0 0] 47)).alloc (.cells (Q0w a b f s (.slice o len cap) (.slice (some ⟨bb,off,none⟩) g.length cg) pl st) 58)) w1.heap.size 47 (.slice none 0 0):=(Boxed.new w1 47 (.slice none 0 0)).alloc _
 have hS0:((w1.alloc (.cells #[.slice none 0 0] 47)).alloc (.cells (Q0w a b f s (.slice o len cap) (.slice (some ⟨bb,off,none⟩) g.length cg) pl st) 58)).heap[w1.heap.size+1]? =some (.cells (Q0w a b f s (.slice o len cap) (.slice (some ⟨bb,off,none⟩) g.length cg) pl st) 58 (0,0)):=by
  have:=World.alloc_heap_new (w1.alloc (.cells #[.slice none 0 0] 47)) (.cells (Q0w a b f s (.slice o len cap) (.slice (some ⟨bb,off,none⟩) g.length cg) pl st) 58)
  simpa only [World.size_alloc] using this
 have hB0:Below w1.heap.size w1 ((w1.alloc (.cells #[.slice none 0 0] 47)).alloc (.cells (Q0w a b f s (.slice o len cap) (.slice (some ⟨bb,off,none⟩) g.length cg) pl st) 58)):=((Below.refl _ w1).alloc (Kaq _) _).alloc (by simp) _
 have hsz:((w1.alloc (.cells #[.slice none 0 0] 47)).alloc (.cells (Q0w a b f s (.slice o len cap) (.slice (some ⟨bb,off,none⟩) g.length cg) pl st) 58)).heap.size=w1.heap.size+2:=by simp
 gi_wp2
 generalize ((w1.alloc (.cells #[.slice none 0 0] 47)).alloc (.cells (Q0w a b f s (.slice o len cap) (.slice (some ⟨bb,off,none⟩) g.length cg) pl st) 58))=W0 at *
 have hbw:bb < w1.heap.size:=by omega
 have hcellW:∀j,j < g.length→W0.cell? ⟨bb,off+j * 2,none⟩=some (.int .i64 (g[j]?.getD (0,0)).1)∧W0.cell? ⟨bb,off+j * 2+1,none⟩=some (.int .i64 (g[j]?.getD (0,0)).2):=fun j hj=> by
  have:=hcell j hj
  rw [List.getD_eq_getElem?_getD] at this
  have hB:=Hb1.out.trans (hB0.mono (by omega))
  exact ⟨(hB.cell (p:=⟨bb,off+j * 2,none⟩) hbb).trans this.1,(hB.cell (p:=⟨bb,off+j * 2+1,none⟩) hbb).trans this.2⟩
 refine wpIn_rangeFunc_ownH rfl (by decide) (gf:=148) (lb:=#[.pointer (some ⟨w1.heap.size+1,0,none⟩)]) rfl trivial (enters_of Tryz.func148 (by kernel_rfl) rfl)
  (Q75 Fence.wide (4 - 1) trivial rfl (by decide) (w1.heap.size+1) w1.heap.size bb off cg g pl hgl W0 (by omega) hbw (by omega) (Q0y hS0 5 _ rfl) (Q0y hS0 6 _ rfl) hcellW)
  (fun h k=> KpB.trans h k)
  (fun W l ob ob' hl' hw' hn1 hn2=> ⟨belowK_b (w:=W0) (by omega) W l ob ob' hl' hw' hn1 hn2,(grownBy_putObj' W l ob').block _ (by have:=(Array.getElem?_eq_some_iff.1 hw').1;omega) (by simp;omega)⟩)
  (Below.refl _ _) (fun _=> rfl)
  (fun pre W=> ((∃v,Boxed W w1.heap.size 47 v∧W.ownsRow w1.heap.size 3 1 v (Q3Z pre).length ((Q3Z pre).flatMap Q2e.cs)∧True)∧W.heap[w1.heap.size+1]? =some (.cells (Q0w a b f s (.slice o len cap) (.slice (some ⟨bb,off,none⟩) g.length cg) pl st) 58 (0,0))∧w1.heap.size+2≤W.heap.size)∧Below w1.heap.size w1 W)
  (fun c pre W=> False∧Below w1.heap.size w1 W)
  (OwnFrom.and (Own.from (fun q A B row hs hg hr=> by obtain ⟨e1,e4,e5⟩:=hs;exact ⟨holdsRow_own w1.heap.size w1.heap.size 47 3 1 (fun s=> (Q3Z s).length) (fun s=> (Q3Z s).flatMap Q2e.cs) (fun _ _=> True) q A B row e1 hg hr,Q2L e4 hg hr,Kdq e5 hg.size⟩) _) (ownFrom_below (Kaq _) (by omega)))
  (fun c=> OwnFrom.and (Own.from (fun q A B row hs hg hr=> hs) _) (ownFrom_below (Kaq _) (by omega)))
  ⟨⟨⟨_,bP0,World.ownsRow_nil _ _ _ _,trivial⟩,hS0,by omega⟩,hB0⟩
  (fun x a' W=> ∃Bx,w1.heap.size+1 < Bx∧W.heap[Bx]? =some (.cells #[.int .i64 x.1.1,.int .i64 x.1.2] 50 (0,0))∧a'={ tmps:=#[crr a b f s (.slice o len cap) (.slice (some ⟨bb,off,none⟩) g.length cg) pl st,.pointer (some ⟨w.heap.size,0,none⟩),.slice none 0 0,.pointer (some ⟨w1.heap.size,0,none⟩),.pointer (some ⟨Bx,0,none⟩),.agg #[.int .i64 a,.int .i64 b,.int .i64 f,.int .i64 s,.slice o len cap,.slice (some ⟨bb,off,none⟩) g.length cg,.int .i64 pl,.int .i64 st],.bool true,.bool false,.agg #[.int .i64 a,.int .i64 b,.int .i64 f,.int .i64 s,.slice o len cap,.slice (some ⟨bb,off,none⟩) g.length cg,.int .i64 pl,.int .i64 st],.func (.func 148) #[] #[.pointer (some ⟨w1.heap.size+1,0,none⟩)],seg x.1.1 x.1.2,.bool x.2,undef,undef,undef,undef,undef,undef,undef,undef,undef],defers:=[] })
  (fun x a' _ X Y row hs hg hr=> by obtain ⟨Bx,e1,e2,e3⟩:=hs;exact ⟨Bx,e1,Q2L e2 hg (fun r e=> (hr r e).2),e3⟩)
  ?assign ?body ?done ?stop
 case assign=>
  rintro l pre x W K ⟨⟨⟨v,e1,e2,_⟩,e4,e5⟩,hB⟩ hK
  gi_wp2
  refine hK _ _ ((KeepsOthers.alloc _ _).from _) ⟨(Below.refl _ W).alloc hB.size _,Below.heap_alloc W _ _ (by omega)⟩ ⟨⟨⟨v,e1.alloc _,World.ownsRow.alloc e2 _,trivial⟩,(Below.heap_alloc W _ _ (by omega)).trans e4,Kdq e5 (by simp)⟩,hB.alloc hB.size _⟩ ⟨W.heap.size,by omega,World.alloc_heap_new W _,rfl⟩
 case body=>
  rintro l pre ⟨⟨x1,x2⟩,d⟩ a' W hl ⟨r,hr⟩ ⟨⟨⟨v,e1,e2,_⟩,e4,e5⟩,hB⟩ ⟨Bx,hBx,hX,rfl⟩ hlt
  dsimp only at hX
  have cX0:=Q0y hX 0 _ rfl;have cX1:=Q0y hX 1 _ rfl
  cases hy:(x2==1) with
  |false=>
   have HN:=Q02 (Qbh pre ((x1,x2),d) hy)
   gi_wp2
   exact ⟨Q2E (Below.refl _ _),⟨Below.refl _ _,rfl⟩,⟨⟨v,e1,by rw [HN.out];exact e2,trivial⟩,e4,e5⟩,hB⟩
  |true=>
   have HN:=Q02 (Q9f pre ((x1,x2),d) hy);obtain ⟨i0,hi,hz0,hz1,hz2⟩:=info_parts QaN;have hHL:=QdV pre;have cP:=e1.cell;have fP:=e1.frozen
   have hnW:w1.heap.size≤W.heap.size:=by omega
   have hnS:=Q8D e4 QdS e2;have HE:=Q02 (And.intro e1 (And.intro e2 (And.intro e4 (And.intro hB hnS))));have HF:=Q02 (World.ownsRow.alloc e2 (.cells #[.int .i64 x1] 3));have cPa:=(Boxed.alloc e1 (.cells #[.int .i64 x1] 3)).cell
   have hlen2:(Q3Z pre).length≤1048576:=by omega
   obtain ⟨ov,cv,hve,_⟩:=ownL.open (L:=Q2e) e2;clear e1 e2 e4 hB hnS;subst hve
   gi_wp2_with (refine wpListIn_append_own _ rfl _ _ 47 rfl w1.heap.size 3 i0 (.int .i64 0) 1 8 Tryz.underlying47 hi hz0 hz1 hz2 rfl (by decide) _ _ _ rfl HF.out ⟨W.heap.size,0,none⟩ 1 1 [.int .i64 x1] rfl rfl (cell_one_new W _ _) ?h1 ?b1 ?b2 ?b3 ?_)
   case h1=> simp [Value.oneCell']
   case b1=> unfold maxLen;omega
   case b2=> omega
   case b3=> omega
   intro v' w2 hown' hgrow _
   obtain ⟨g',c',rfl⟩:=ownsRow_succ hown';obtain ⟨q1,q2,q4,qB,qS⟩:=HE.out;obtain ⟨b1,b2,b3,b4,b5⟩:=Boxed.appended (tmp:=.cells #[.int .i64 x1] 3) q1 Qex q2 hnW (Kaq _) hown' hgrow;have cP2:=b1.cell;have fP2:=b1.frozen;have HR:=Q02 (And.intro b2 (And.intro b3 (And.intro b4 b5)))
   have HS:Hid ((w2.setCell ⟨w1.heap.size,0,none⟩ (.slice (some ⟨g',0,none⟩) ((Q3Z pre).length+1) c')).heap[w1.heap.size+1]? =W.heap[w1.heap.size+1]?):=
    (Below.heap_setCell w2 ⟨w1.heap.size,0,none⟩ _ (w1.heap.size+1) (by simp)).trans ((hgrow.block (w1.heap.size+1) (by simp;omega) qS).trans (Below.heap_alloc W _ _ (by omega)))
   clear b1 b2 b3 b4 b5 hown' hgrow q1 q2
   gi_wp2
   obtain ⟨b2,b3,b4,b5⟩:=HR.out
   refine ⟨b4.from _,⟨b5,HS.out⟩,⟨⟨_,b2, ?_,trivial⟩,HS.out.trans q4,Kdq e5 b5.size⟩,qB.trans b5⟩
   rw [HN.out]
   simpa [Q2e] using b3
 case done=>
  rintro D ys W hD rfl ⟨⟨⟨v,e1,e2,_⟩,e4,e5⟩,hB⟩ hK
  obtain ⟨ov,cv,hve,_⟩:=ownL.open (L:=Q2e) e2;subst hve;have cP:=e1.cell;have HE:=Q02 (And.intro e2 hB);have hup:=Q02 (Q7V g pl g.length (Kaq _));clear e1 e2 e4 hB
  gi_wp2
  refine ⟨by simp,.inl ⟨_,_,rfl,run_takeDeferred hK, ?_⟩⟩
  refine ⟨.slice ov (Q3Z (upto (Q2F g pl) g.length)).length cv,by simp [results,Tryz.f47,go_sem],_,rfl, ?_, ?_⟩
  ·have h1:=ownsRow_putObj HE.out.1 (.deferred none) hK rfl
   unfold ownL
   rw [←hup.out]
   exact Q04 h1 (Nat.le_of_lt hz1)
  ·exact Hb1.out.trans ((HE.out.2.trans (belowK_b (w:=w1) (Kaq _) W D _ _ (by omega) hK rfl rfl)).mono (Nat.le_of_lt hz1))
 case stop=>
  rintro D c pre W hD ⟨k,hk,rfl⟩ ⟨hF,hB⟩ hK
  exact hF.elim
end Go.Proofs.YtpneolgdghbinaaGreat
