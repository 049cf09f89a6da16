/- Several texts in one: SWay3, SCell2. -/
import Derived.WalkMore
import Derived.Test.YtpneolgdghbinaaGreatQSends06
namespace Go.Proofs.YtpneolgdghbinaaGreat
open Go.ChangeShapes Go.WideShapes Go.ChangeAt Go.RowKit Go.Joins Go.Shelf
set_option linter.unusedVariables false
set_option linter.unusedSimpArgs false
set_option maxRecDepth 100000
set_option maxHeartbeats 40000000
attribute [local go_sem] Oper.semAt_some
theorem Q2t {W W':World} {B:Nat} {c:Array Value} {t:TypeId} {z:Nat × Nat} {row:Option Nat} (h:W.heap[B]? =some (.cells c t z)) (hg:W.grownBy W' row) (hr:∀r,row=some r→∃o:Obj,W.heap[r]? =some o∧o.isCells=false):W'.heap[B]? =some (.cells c t z):=by
 have hlt:B < W.heap.size:=(Array.getElem?_eq_some_iff.1 h).1
 refine (hg.block B hlt (fun e=> ?_)).trans h
 obtain ⟨o,ho,hn⟩:=hr B e.symm
 rw [h] at ho
 cases ho
 simp [Obj.isCells] at hn
theorem Q5X {B:Nat} {W W':World} (h:Below W.heap.size W W'):KeepsFrom B W W':=
 ⟨h.size,fun i o _ hi _=> (h.block i (Array.getElem?_eq_some_iff.1 hi).1).trans hi⟩
theorem Q64 (b off cap:Nat) (l:List Sl) (a p:Int) (w:World) (hn:0 < l.length) (hl:l.length≤1048576) (hf:Q0f a p=true) (hb:b < w.heap.size)
  (hc:∀i,i < l.length→∀j,j < Q0h.k→w.cell? ⟨b,off+i * Q0h.k+j,none⟩=(Q0h.cs (l.getD i Q0h.d))[j]?):
  Calls Tryz.prog 151 #[tab (.slice (some ⟨b,off,none⟩) l.length cap),Qfl a p] w fun e w'=> e=.returned (.tuple #[.int .i64 (Q1o l a p).1,.bool (Q1o l a p).2])∧Below w.heap.size w w':=by
 refine (callsIn_wide (n:=4)).1 ?_
 refine callsIn_of_wp_marks Tryz.func151 rfl trivial ?_ rfl
 simp only [Tryz.ntmps151,List.size_toArray,List.length_cons,List.length_nil,Nat.reduceAdd,Nat.reduceSub,Array.replicate_succ,Array.replicate_zero,List.push_toArray,List.append_toArray,List.nil_append,List.cons_append]
 gi_wp2
 refine wpIn_wide.2 (wp_scope_straight ((wpIn_wide (n:=4)).1 ?_))
 gi_wp2
 refine wpIn_label ?_
 gi_wp2
 gi_wp2_with (refine ⟨trivial, ?_⟩;gi_at_call 178;refine (QeT (4 - 1) _ a p _).mono ?_;rintro e w' ⟨rfl,rfl⟩)
 have hF0:((((((w.alloc (.cells #[(.slice (some ⟨b,off,none⟩) l.length cap)] 89)).alloc (.cells #[.int .i64 a,.int .i64 p] 36)).alloc (.cells #[.int .i64 (-1)] 3)).alloc (.cells #[.bool false] 4)).alloc (.cells #[(.slice (some ⟨b,off,none⟩) l.length cap)] 89)).alloc (.cells #[.int .i64 a,.int .i64 p] 36)).heap[w.heap.size+1]? =some (.cells #[.int .i64 a,.int .i64 p] 36 (0,0)):=(by have h:=World.alloc_heap_new (w.alloc (.cells #[(.slice (some ⟨b,off,none⟩) l.length cap)] 89)) (.cells #[.int .i64 a,.int .i64 p] 36);simp only [World.size_alloc] at h;exact (Below.heap_alloc _ _ _ (by simp <;> omega)).trans ((Below.heap_alloc _ _ _ (by simp <;> omega)).trans ((Below.heap_alloc _ _ _ (by simp <;> omega)).trans ((Below.heap_alloc _ _ _ (by simp <;> omega)).trans (h)))))
 have hE0:((((((w.alloc (.cells #[(.slice (some ⟨b,off,none⟩) l.length cap)] 89)).alloc (.cells #[.int .i64 a,.int .i64 p] 36)).alloc (.cells #[.int .i64 (-1)] 3)).alloc (.cells #[.bool false] 4)).alloc (.cells #[(.slice (some ⟨b,off,none⟩) l.length cap)] 89)).alloc (.cells #[.int .i64 a,.int .i64 p] 36)).heap[w.heap.size+1+1]? =some (.cells #[.int .i64 (-1)] 3 (0,0)):=(by have h:=World.alloc_heap_new ((w.alloc (.cells #[(.slice (some ⟨b,off,none⟩) l.length cap)] 89)).alloc (.cells #[.int .i64 a,.int .i64 p] 36)) (.cells #[.int .i64 (-1)] 3);simp only [World.size_alloc] at h;exact (Below.heap_alloc _ _ _ (by simp <;> omega)).trans ((Below.heap_alloc _ _ _ (by simp <;> omega)).trans ((Below.heap_alloc _ _ _ (by simp <;> omega)).trans (h))))
 have hO0:((((((w.alloc (.cells #[(.slice (some ⟨b,off,none⟩) l.length cap)] 89)).alloc (.cells #[.int .i64 a,.int .i64 p] 36)).alloc (.cells #[.int .i64 (-1)] 3)).alloc (.cells #[.bool false] 4)).alloc (.cells #[(.slice (some ⟨b,off,none⟩) l.length cap)] 89)).alloc (.cells #[.int .i64 a,.int .i64 p] 36)).heap[w.heap.size+1+1+1]? =some (.cells #[.bool false] 4 (0,0)):=(by have h:=World.alloc_heap_new (((w.alloc (.cells #[(.slice (some ⟨b,off,none⟩) l.length cap)] 89)).alloc (.cells #[.int .i64 a,.int .i64 p] 36)).alloc (.cells #[.int .i64 (-1)] 3)) (.cells #[.bool false] 4);simp only [World.size_alloc] at h;exact (Below.heap_alloc _ _ _ (by simp <;> omega)).trans ((Below.heap_alloc _ _ _ (by simp <;> omega)).trans (h)))
 have hS0:((((((w.alloc (.cells #[(.slice (some ⟨b,off,none⟩) l.length cap)] 89)).alloc (.cells #[.int .i64 a,.int .i64 p] 36)).alloc (.cells #[.int .i64 (-1)] 3)).alloc (.cells #[.bool false] 4)).alloc (.cells #[(.slice (some ⟨b,off,none⟩) l.length cap)] 89)).alloc (.cells #[.int .i64 a,.int .i64 p] 36)).heap[w.heap.size+1+1+1+1]? =some (.cells #[(.slice (some ⟨b,off,none⟩) l.length cap)] 89 (0,0)):=(by have h:=World.alloc_heap_new ((((w.alloc (.cells #[(.slice (some ⟨b,off,none⟩) l.length cap)] 89)).alloc (.cells #[.int .i64 a,.int .i64 p] 36)).alloc (.cells #[.int .i64 (-1)] 3)).alloc (.cells #[.bool false] 4)) (.cells #[(.slice (some ⟨b,off,none⟩) l.length cap)] 89);simp only [World.size_alloc] at h;exact (Below.heap_alloc _ _ _ (by simp <;> omega)).trans (h))
 have hG0:((((((w.alloc (.cells #[(.slice (some ⟨b,off,none⟩) l.length cap)] 89)).alloc (.cells #[.int .i64 a,.int .i64 p] 36)).alloc (.cells #[.int .i64 (-1)] 3)).alloc (.cells #[.bool false] 4)).alloc (.cells #[(.slice (some ⟨b,off,none⟩) l.length cap)] 89)).alloc (.cells #[.int .i64 a,.int .i64 p] 36)).heap[w.heap.size+1+1+1+1+1]? =some (.cells #[.int .i64 a,.int .i64 p] 36 (0,0)):=(by have h:=World.alloc_heap_new (((((w.alloc (.cells #[(.slice (some ⟨b,off,none⟩) l.length cap)] 89)).alloc (.cells #[.int .i64 a,.int .i64 p] 36)).alloc (.cells #[.int .i64 (-1)] 3)).alloc (.cells #[.bool false] 4)).alloc (.cells #[(.slice (some ⟨b,off,none⟩) l.length cap)] 89)) (.cells #[.int .i64 a,.int .i64 p] 36);simp only [World.size_alloc] at h;exact h)
 have hB0:Below w.heap.size w ((((((w.alloc (.cells #[(.slice (some ⟨b,off,none⟩) l.length cap)] 89)).alloc (.cells #[.int .i64 a,.int .i64 p] 36)).alloc (.cells #[.int .i64 (-1)] 3)).alloc (.cells #[.bool false] 4)).alloc (.cells #[(.slice (some ⟨b,off,none⟩) l.length cap)] 89)).alloc (.cells #[.int .i64 a,.int .i64 p] 36)):=((((((Below.refl _ w).alloc (Kaq _) _).alloc (by simp) _).alloc (by simp <;> omega) _).alloc (by simp <;> omega) _).alloc (by simp <;> omega) _).alloc (by simp <;> omega) _
 have hsz:((((((w.alloc (.cells #[(.slice (some ⟨b,off,none⟩) l.length cap)] 89)).alloc (.cells #[.int .i64 a,.int .i64 p] 36)).alloc (.cells #[.int .i64 (-1)] 3)).alloc (.cells #[.bool false] 4)).alloc (.cells #[(.slice (some ⟨b,off,none⟩) l.length cap)] 89)).alloc (.cells #[.int .i64 a,.int .i64 p] 36)).heap.size=w.heap.size+6:=by simp
 obtain ⟨W0,hW0⟩:∃W0,((((((w.alloc (.cells #[(.slice (some ⟨b,off,none⟩) l.length cap)] 89)).alloc (.cells #[.int .i64 a,.int .i64 p] 36)).alloc (.cells #[.int .i64 (-1)] 3)).alloc (.cells #[.bool false] 4)).alloc (.cells #[(.slice (some ⟨b,off,none⟩) l.length cap)] 89)).alloc (.cells #[.int .i64 a,.int .i64 p] 36))=W0:=⟨_,rfl⟩
 rw [hW0] at hF0 hE0 hO0 hS0 hG0 hB0 hsz
 (try rw [hW0])
 clear hW0
 skip
 refine wpIn_rangeFunc_ownH rfl (by decide) (gf:=187) (lb:=#[.pointer (some ⟨w.heap.size+1+1+1+1,0,none⟩),.pointer (some ⟨w.heap.size+1+1+1+1+1,0,none⟩)]) rfl trivial (enters_of Tryz.func187 (by kernel_rfl) rfl)
  (Qeo (4 - 1) (by decide) (w.heap.size+1+1+1+1) (w.heap.size+1+1+1+1+1) w.heap.size b off cap l a p hn hl hf W0 (by omega) (by omega) hb (by omega) (Q0j hS0 0 _ rfl) (Q0j hG0 0 _ rfl) (Q0j hG0 1 _ rfl) (fun i hi j hj=> (hB0.cell (p:=⟨b,off+i * Q0h.k+j,none⟩) hb).trans (hc i hi j hj)))
  (fun h k=> KpW.trans h k)
  (fun W l ob ob' hl' hw' hn1 hn2=> ⟨belowK_b (w:=W0) (by omega) W l ob ob' hl' hw' hn1 hn2,(grownBy_putObj' W l ob').block _ (by have:=(Array.getElem?_eq_some_iff.1 hw').1;omega) (by simp;omega)⟩)
  (Below.refl _ _) (fun _=> rfl)
  (fun pre W=> (Q7c a p pre=none∧Boxed W (w.heap.size+1+1) 3 (.int .i64 (-1))∧Boxed W (w.heap.size+1+1+1) 4 (.bool false)∧W.heap[w.heap.size+1]? =some (.cells #[.int .i64 a,.int .i64 p] 36 (0,0))∧w.heap.size+6≤W.heap.size)∧Below w.heap.size w W)
  (fun c pre W=> (c=.exit 0∧∃E:Int × Bool,Q7c a p pre=some E∧Boxed W (w.heap.size+1+1) 3 (.int .i64 E.1)∧Boxed W (w.heap.size+1+1+1) 4 (.bool E.2))∧Below w.heap.size w W)
  (OwnFrom.and (Own.from (fun q A B row hs hg hr=> by obtain ⟨e1,e2,e3,e4,e5⟩:=hs;exact ⟨e1,Q2t e2 hg hr,Q2t e3 hg hr,Q2t e4 hg hr,Kdq e5 hg.size⟩) _) (ownFrom_below (Kaq _) (by omega)))
  (fun c=> OwnFrom.and (Own.from (fun q A B row hs hg hr=> by obtain ⟨e0,E,e1,e2,e3⟩:=hs;exact ⟨e0,E,e1,Q2t e2 hg hr,Q2t e3 hg hr⟩) _) (ownFrom_below (Kaq _) (by omega)))
  ⟨⟨rfl,hE0,hO0,hF0,by omega⟩,hB0⟩
  (fun x a' W=> ∃Bx,w.heap.size+1+1+1+1+1 < Bx∧W.heap[Bx]? =some (.cells #[.bool x.2.u,.int .i64 x.2.a,.int .i64 x.2.p,.int .i64 x.2.v,.int .i64 x.2.t] 165 (0,0))∧a'={ tmps:=#[tab (.slice (some ⟨b,off,none⟩) l.length cap),Qfl a p,.pointer (some ⟨w.heap.size,0,none⟩),.pointer (some ⟨w.heap.size+1,0,none⟩),.int .i64 0,.bool false,.pointer (some ⟨w.heap.size+1+1,0,none⟩),.pointer (some ⟨w.heap.size+1+1+1,0,none⟩),.int .i64 (x.1:Nat),.pointer (some ⟨Bx,0,none⟩),.agg #[(.slice (some ⟨b,off,none⟩) l.length cap)],.agg #[.int .i64 a,.int .i64 p],.func (.func 187) #[] #[.pointer (some ⟨w.heap.size+1+1+1+1,0,none⟩),.pointer (some ⟨w.heap.size+1+1+1+1+1,0,none⟩)],.int .i64 (x.1:Nat),slot x.2,undef,undef,undef,undef,undef,undef,undef,undef,undef,undef,undef,undef,undef],defers:=[] })
  (fun x a' _ X Y row hs hg hr=> by obtain ⟨Bx,e1,e2,e3⟩:=hs;exact ⟨Bx,e1,Q2t e2 hg (fun r e=> (hr r e).2),e3⟩)
  ?assign ?body ?done ?stop
 case assign=>
  rintro y pre x W K ⟨⟨e1,e2,e3,e4,e5⟩,hB⟩ hK
  gi_wp2
  refine hK _ _ ((KeepsOthers.alloc _ _).from _) ⟨(Below.refl _ W).alloc hB.size _,Below.heap_alloc W _ _ (by omega)⟩ ⟨⟨e1,e2.alloc _,e3.alloc _,(Below.heap_alloc W _ _ (by omega)).trans e4,Kdq e5 (by simp)⟩,hB.alloc hB.size _⟩ ⟨W.heap.size,by omega,World.alloc_heap_new W _,rfl⟩
 case body=>
  rintro y pre ⟨xq,xs⟩ a' W hl' ⟨r,hr⟩ ⟨⟨e1,e2,e3,e4,e5⟩,hB⟩ ⟨Bx,hBx,hX,rfl⟩ hlt
  obtain ⟨su,sa,sp,sv,st⟩:=xs
  dsimp only at hX
  have cX0:=Q0j hX 0 _ rfl;have cX1:=Q0j hX 1 _ rfl;have cX2:=Q0j hX 2 _ rfl;have cF0:=Q0j e4 0 _ rfl;have cF1:=Q0j e4 1 _ rfl;have cE:=e2.cell;have fE:=e2.frozen;have cO:=e3.cell;have fO:=e3.frozen;have HS:=Q02 (Q7k a p pre (xq,⟨su,sa,sp,sv,st⟩) e1);have HH:=Q02 (And.intro e2 (And.intro e3 (And.intro e4 hB)));clear e2 e3 e4 hB
  cases su with
  |false=>
   have HN:=Q02 (show Q7c a p (pre++[(xq,⟨false,sa,sp,sv,st⟩)])=some ((xq:Int),false) from HS.out.trans (by simp [Q35]))
   clear HS
   gi_wp2
   obtain ⟨e2,e3,e4,hB⟩:=HH.out
   exact ⟨(KeepsOthers.setCell _ _ _).from _,⟨rfl,((xq:Int),false),HN.out,e2.set _,(Below.heap_setCell _ _ _ _ (by simp)).trans e3⟩,hB.setCell (p:=⟨w.heap.size+1+1,0,none⟩) (by simp;omega) _⟩
  |true=>
   by_cases hq:sa=a∧sp=p
   ·have HN:=Q02 (show Q7c a p (pre++[(xq,⟨true,sa,sp,sv,st⟩)])=some ((xq:Int),true) from HS.out.trans (by simp [Q35,hq]))
    obtain ⟨rfl,rfl⟩:=hq;clear HS
    have cO2:(W.setCell ⟨w.heap.size+1+1,0,none⟩ (.int .i64 (xq:Nat))).cell? ⟨w.heap.size+1+1+1,0,none⟩=some (.bool false):=((Q33 (Below.heap_setCell _ _ _ _ (by simp))).trans cO)
    have fO2:(W.setCell ⟨w.heap.size+1+1,0,none⟩ (.int .i64 (xq:Nat))).frozen? ⟨w.heap.size+1+1+1,0,none⟩=false:=(Boxed.frozen (show Boxed _ _ 4 (.bool false) from (Below.heap_setCell _ _ _ _ (by simp)).trans HH.out.2.1))
    gi_wp2
    obtain ⟨e2,e3,e4,hB⟩:=HH.out
    refine ⟨((KeepsOthers.setCell _ _ _).from _).trans ((KeepsOthers.setCell _ _ _).from _),⟨rfl,((xq:Int),true),HN.out,(Below.heap_setCell _ _ _ _ (by simp)).trans (e2.set _), ?_⟩,(hB.setCell (p:=⟨w.heap.size+1+1,0,none⟩) (by simp;omega) _).setCell (p:=⟨w.heap.size+1+1+1,0,none⟩) (by simp;omega) _⟩
    have b3:Boxed (W.setCell ⟨w.heap.size+1+1,0,none⟩ (.int .i64 (xq:Nat))) (w.heap.size+1+1+1) 4 (.bool false):=(Below.heap_setCell W ⟨w.heap.size+1+1,0,none⟩ _ (w.heap.size+1+1+1) (by simp)).trans e3
    exact b3.set _
   ·have HN:=Q02 (show Q7c a p (pre++[(xq,⟨true,sa,sp,sv,st⟩)])=none from HS.out.trans (by simp [Q35];exact fun h1 h2=> hq ⟨h1,h2⟩))
    clear HS
    by_cases h1:sa=a
    ·subst h1
     have h2:(sp==p)=false:=beq_eq_false_iff_ne.2 (fun e=> hq ⟨rfl,e⟩)
     clear hq
     gi_wp2
     obtain ⟨e2,e3,e4,hB⟩:=HH.out
     exact ⟨Q5X (Below.refl _ _),⟨Below.refl _ _,rfl⟩,⟨HN.out,e2,e3,e4,e5⟩,hB⟩
    ·have h2:(sa==a)=false:=beq_eq_false_iff_ne.2 h1
     clear hq
     gi_wp2
     obtain ⟨e2,e3,e4,hB⟩:=HH.out
     exact ⟨Q5X (Below.refl _ _),⟨Below.refl _ _,rfl⟩,⟨HN.out,e2,e3,e4,e5⟩,hB⟩
 case done=>
  rintro D ys W hD rfl ⟨⟨e1,e2,e3,e4,e5⟩,hB⟩ hK
  have HE:=Q02 (Qdh hn e1);have cE:=e2.cell;have cO:=e3.cell;have HH:=Q02 (And.intro e2 (And.intro e3 hB));clear e2 e3 hB
  gi_wp2
  refine wpIn_wide.2 ?_
  go_region
  gi_wp2
  rw [Exit.noGoto_ret]
  have hK2:W.drew.heap[D]? =some (.deferred (some [])):=hK
  refine ⟨by simp,.inl ⟨_,_,rfl,run_takeDeferred hK2, ?_⟩⟩
  refine ⟨.tuple #[.int .i64 (-1),.bool false],by simp [results,Tryz.f151,go_sem],by rw [HE.out],(Below.drew HH.out.2.2).trans (belowK_b (w:=w) (Kaq _) W.drew D _ _ (by omega) hK2 rfl rfl)⟩
 case stop=>
  rintro D c pre W hD ⟨k,hk,rfl⟩ ⟨⟨rfl,E,e1,e2,e3⟩,hB⟩ hK
  have HE:=Q02 (Q6E hn hk e1);have cE:=e2.cell;have cO:=e3.cell;have HH:=Q02 (And.intro e2 (And.intro e3 hB));clear e2 e3 hB
  gi_wp2
  refine wpIn_wide.2 ?_
  go_region
  gi_wp2
  rw [Exit.noGoto_ret]
  have hK2:W.drew.heap[D]? =some (.deferred (some [])):=hK
  refine ⟨by simp,.inl ⟨_,_,rfl,run_takeDeferred hK2, ?_⟩⟩
  refine ⟨.tuple #[.int .i64 E.1,.bool E.2],by simp [results,Tryz.f151,go_sem],by rw [HE.out],(Below.drew HH.out.2.2).trans (belowK_b (w:=w) (Kaq _) W.drew D _ _ (by omega) hK2 rfl rfl)⟩
end Go.Proofs.YtpneolgdghbinaaGreat
namespace Go.Proofs.YtpneolgdghbinaaGreat
open Go.ChangeShapes Go.WideShapes Go.ChangeAt Go.RowKit Go.Joins
set_option linter.unusedVariables false
set_option linter.unusedSimpArgs false
set_option maxRecDepth 100000
set_option maxHeartbeats 40000000
def Qai (l:List Sl):Bool:=(List.range l.length).all (Q92 l)
theorem Q71 {l:List Sl}:Qai l=true↔∀i,i < l.length→Q92 l i=true:=by simp [Qai]
theorem QeW {l:List Sl} {i:Nat} (hi:i < l.length) (h:Q92 l i=false):false=Qai l:=by
 cases hb:Qai l with
 |false=> rfl
 |true=> rw [Q71.1 hb i hi] at h;cases h
theorem Q8N {l:List Sl} (h1:1≤l.length) (h2:l.length≤16) (h:Q78 l l.length):Qai l=Q0l l:=by
 rw [Bool.eq_iff_iff,Q71,Q0i]
 constructor
 ·intro hw
  exact ⟨h1,h2,fun i hi=> by unfold Q5m;rw [h i hi,hw i hi];rfl⟩
 ·intro ⟨_,_,ht⟩ i hi
  have:=ht i hi
  unfold Q5m at this
  rw [h i hi] at this
  simpa using this
theorem Qdl {l:List Sl} {i:Nat} (h:(l.getD i sl0).u=false):Q92 l i=true:=by unfold Q92;rw [h];rfl
theorem QeL {l:List Sl} {i:Nat} (h:Q1o l (l.getD i sl0).a (l.getD i sl0).p=((i:Int),true)):Q92 l i=true:=by unfold Q92;rw [h];cases (l.getD i sl0).u <;> simp
theorem QfA {l:List Sl} {i:Nat} (hu:(l.getD i sl0).u=true) (h:Q1o l (l.getD i sl0).a (l.getD i sl0).p≠((i:Int),true)):Q92 l i=false:=by unfold Q92;rw [hu,beq_eq_false_iff_ne.2 h];rfl
theorem Qgk {l:List Sl} (hn:0 < l.length) {a p:Int} {k:Nat} (hu:(l.getD k sl0).u=true) (h:(Q1o l a p).1=(k:Int)):Q1o l a p=((k:Int),true):=by
 rcases Q23 l hn a p with e|⟨q,hq,⟨e,f⟩|⟨e,_⟩⟩
 ·rw [e] at h;exact absurd (show (-1:Int)=k from h) (by omega)
 ·rw [e] at h;simp at h;have:q=k:=by omega
  subst this;rw [hu] at f;cases f
 ·rw [e] at h ⊢;simp at h;have:q=k:=by omega
  subst this;rfl
abbrev Q4l:TypeId:=165
theorem Q3J (b off cap:Nat) (l:List Sl) (w:World) (hn:0 < l.length) (hl:l.length≤1048576) (hs:Q78 l l.length) (hb:b < w.heap.size)
  (hc:∀i,i < l.length→∀j,j < Q0h.k→w.cell? ⟨b,off+i * Q0h.k+j,none⟩=(Q0h.cs (l.getD i Q0h.d))[j]?):
  Calls Tryz.prog 126 #[tab (.slice (some ⟨b,off,none⟩) l.length cap)] w fun e w'=> e=.returned (.bool (Qai l))∧Below w.heap.size w w':=by
 have HC:=Q02 hc;have h0:Hid (Below w.heap.size w (w.alloc (.cells #[.slice (some ⟨b,off,none⟩) l.length cap] 89))):=(Below.refl _ _).alloc (Kaq _) _
 have hb0:Hid ((w.alloc (.cells #[.slice (some ⟨b,off,none⟩) l.length cap] 89)).cell? ⟨w.heap.size,0,none⟩=some (.slice (some ⟨b,off,none⟩) l.length cap)):=by simp [Q02,go_sem,Hid]
 have hz0:w.heap.size < (w.alloc (.cells #[.slice (some ⟨b,off,none⟩) l.length cap] 89)).heap.size:=by simp
 clear hc
 go_enter Tryz.func126,Tryz.ntmps126
 go_wp2
 generalize w.alloc (.cells #[.slice (some ⟨b,off,none⟩) l.length cap] 89)=w0 at *
 go_loopw [10] (fun i wr=> ∃k:Nat,k≤l.length∧i=.int .i64 k∧Hid (∀j,j < k→Q92 l j=true)∧Hid (Below w0.heap.size w0 wr))
  (fun i _=> l.length - (intOf i).toNat)
 case atStart=> exact ⟨0,Kcq _,rfl,fun i hi=> absurd hi (Nat.not_lt_zero _),Below.refl _ _⟩
 case round=>
  obtain ⟨k,hk,rfl,hT,HBr⟩:=hrel;have d0:wr.cell? ⟨w.heap.size,0,none⟩=some (.slice (some ⟨b,off,none⟩) l.length cap):=(HBr.out.cell (p:=⟨w.heap.size,0,none⟩) hz0).trans hb0.out;have HB2:=Q02 (h0.out.trans (HBr.out.mono h0.out.size));have hs1:w0.heap.size≤wr.heap.size:=HBr.out.size
  by_cases hlt:k < l.length
  ·obtain ⟨s,hxy⟩:∃s,l.getD k sl0=s:=⟨_,rfl⟩
   have hcx:=RdL.slot (C:=w.heap.size) HC.out k hlt;have HSl:=Q02 (hs k hlt)
   rw [hxy] at hcx HSl
   have e0:=(HB2.out.cell (p:=⟨b,off+k * 5,none⟩) hb).trans hcx.1;have e1:=(HB2.out.cell (p:=⟨b,off+k * 5+1,none⟩) hb).trans hcx.2.1;have e2:=(HB2.out.cell (p:=⟨b,off+k * 5+2,none⟩) hb).trans hcx.2.2.1;have e3:=(HB2.out.cell (p:=⟨b,off+k * 5+3,none⟩) hb).trans hcx.2.2.2.1;have e4:=(HB2.out.cell (p:=⟨b,off+k * 5+4,none⟩) hb).trans hcx.2.2.2.2
   have hk':(k:Int) < (l.length:Int):=by omega
   have HX:=Q02 hxy;clear hcx hxy;obtain ⟨su,sa,sp,sv,st⟩:=s
   simp only at e0 e1 e2 e3 e4
   cases su with
   |false=>
    have HT:Hid (∀j,j < k+1→Q92 l j=true):=fun j hj=> by
     rcases Nat.lt_succ_iff_lt_or_eq.1 hj with h|h
     ·exact hT.out j h
     ·rw [h];exact Qdl (by rw [HX.out])
    clear hT
    go_wp2
    go_roundw
    case rel=> exact ⟨k+1,hlt,by go_num,HT,show Below _ _ _ by have hB:=HBr.out;(repeat (first|with_reducible (first|exact hB|exact Below.refl _ _|refine Below.drew ?_|refine below_drewN ?_ _|refine Below.alloc ?_ ?_ _|refine Below.setCell ?_ ?_ _)|(focus (simp;first|done|omega))|omega))⟩
    case measure=> simp [intOf];omega
   |true=>
    obtain ⟨W1,hW1⟩:∃W,wr.alloc (.cells #[.bool true,.int .i64 sa,.int .i64 sp,.int .i64 sv,.int .i64 st] Q4l)=W:=⟨_,rfl⟩
    have hbW:Hid (Below wr.heap.size wr W1):=by rw [←hW1];exact (Below.refl _ _).alloc (Kaq _) _
    have c0:W1.cell? ⟨wr.heap.size,0,none⟩=some (.bool true):=by rw [←hW1];simp [go_sem]
    have c1:W1.cell? ⟨wr.heap.size,1,none⟩=some (.int .i64 sa):=by rw [←hW1];simp [go_sem]
    have c2:W1.cell? ⟨wr.heap.size,2,none⟩=some (.int .i64 sp):=by rw [←hW1];simp [go_sem]
    have c5:W1.cell? ⟨w.heap.size,0,none⟩=some (.slice (some ⟨b,off,none⟩) l.length cap):=(hbW.out.cell (p:=⟨w.heap.size,0,none⟩) (show w.heap.size < wr.heap.size by omega)).trans d0
    have HBW:=Q02 (HB2.out.trans (hbW.out.mono HB2.out.size));have HW:=Q02 (HBr.out.trans (hbW.out.mono HBr.out.size))
    have hat:=Q64 b off cap l sa sp W1 hn hl ((Q5L (s:=⟨true,sa,sp,sv,st⟩) rfl).1 HSl.out).1 (Kbq hb HBW.out.size) (fun i hi j hj=> (HBW.out.cell (p:=⟨b,off+i * Q0h.k+j,none⟩) hb).trans (HC.out i hi j hj))
    by_cases hE:(Q1o l sa sp).1=(k:Int)
    ·have hE2:=Qgk hn (a:=sa) (p:=sp) (k:=k) (by rw [HX.out]) hE
     have HT:Hid (∀j,j < k+1→Q92 l j=true):=fun j hj=> by
      rcases Nat.lt_succ_iff_lt_or_eq.1 hj with h|h
      ·exact hT.out j h
      ·rw [h];exact QeL (by rw [HX.out];exact hE2)
     rw [hE2] at hat
     clear hT hE hE2
     go_wp2_with (go_at_call 151;refine hat.mono ?_;rintro e w2 ⟨rfl,hb2⟩;have HB3:=Q02 (HW.out.trans (hb2.mono HW.out.size));clear hb2)
     go_roundw
     case rel=> exact ⟨k+1,hlt,by go_num,HT,HB3⟩
     case measure=> simp [intOf];omega
    ·have HN:=Q02 (QeW hlt (QfA (by rw [HX.out]) (by rw [HX.out];exact fun h=> hE (by rw [h]))))
     have hE2:((Q1o l sa sp).1==(k:Int))=false:=beq_eq_false_iff_ne.2 hE;generalize Q1o l sa sp=E at *;clear hT
     go_wp2_with (go_at_call 151;refine hat.mono ?_;rintro e w2 ⟨rfl,hb2⟩;have HB3:=Q02 (HBW.out.trans (hb2.mono HBW.out.size));clear hb2)
     go_ret
     exact ⟨Q0c HN.out,HB3.out⟩
  ·have e:k=l.length:=by omega
   subst e;have HY:=Q02 (show true=Qai l from (Q71.2 hT.out).symm)
   go_wp2
   go_ret
   exact ⟨Q0c HY.out,HB2.out⟩
theorem QfM:(Tryz.prog.info? Q4l).map (fun i=> (i.zero,i.size,i.bytes))=some (some (.agg #[.bool false,.int .i64 0,.int .i64 0,.int .i64 0,.int .i64 0]),5,40):=by kernel_rfl
theorem Q3L (n:Nat) (w:World) (hl:n≤1048576):
  Calls Tryz.prog 114 #[.int .i64 n] w fun e w'=> ∃g,e=.returned (tab (.slice (some ⟨g,0,none⟩) n n))∧ownL Q0h Q4l w' w.heap.size (.slice (some ⟨g,0,none⟩) n n) (List.replicate n sl0)∧Below w.heap.size w w':=by
 obtain ⟨i0,hi,hz0,hz1,hz2⟩:=info_parts QfM;have hB:Below w.heap.size w w:=Below.refl _ _
 go_enter Tryz.func114,Tryz.ntmps114
 go_wp2_with (at_make;refine wpList_make_full _ rfl _ _ 87 rfl (w.heap.size+1) Q4l i0 (slot sl0) 5 Tryz.underlying87 hi hz0 hz1 _ _ _ _ n rfl rfl rfl rfl ?b2 ?b3 ?b4 ?_)
 case b2=> rw [hz2];omega
 case b3=> unfold maxLen;omega
 case b4=> simp
 intro w1 hown hgrow
 have bx:w1.heap[w.heap.size]? =some (.cells #[.slice none 0 0] 89 (0,0)):=(hgrow.block w.heap.size (by simp) (by simp)).trans (World.alloc_heap_new w _)
 have c0:=Q0j bx 0 _ rfl
 have f0:w1.frozen? ⟨w.heap.size,0,none⟩=false:=by simp [World.frozen?,bx]
 have hz:w.heap.size < w1.heap.size:=(Array.getElem?_eq_some_iff.1 bx).1
 have HB:Hid (Below w.heap.size w w1):=(hB.alloc (Kaq _) _).grown hgrow (by simp) (fun k h=> by cases h)
 have HO:Hid (ownL Q0h Q4l w1 (w.heap.size+1) (.slice (some ⟨w.heap.size+1,0,none⟩) n n) (List.replicate n sl0)):=by
  unfold Hid ownL
  rw [List.length_replicate]
  show w1.ownsRow _ _ _ _ n ((List.replicate n Q0h.d).flatMap Q0h.cs)
  rw [←Q3q Q0h (slot sl0) rfl];exact hown
 clear hown hgrow hB bx
 go_wp2
 refine bodyPost_ret (v:=tab (.slice (some ⟨w.heap.size+1,0,none⟩) n n)) (by simp [results,Tryz.results114,go_sem,c0]) rfl ⟨_,rfl, ?_, ?_⟩
 ·exact Q04 (ownsRow_setCell_below HO.out (by simp) _) (by omega)
 ·exact HB.out.setCell (p:=⟨w.heap.size,0,none⟩) (Kaq _) _
theorem Qc7 (s:Sl) (w:World):
  Calls Tryz.prog 158 #[slot s] w fun e w'=> e=.returned (slot s)∧Below w.heap.size w w':=by
 have hB:Below w.heap.size w w:=Below.refl _ _
 go_enter Tryz.func158,Tryz.ntmps158
 go_wp2
 refine bodyPost_ret (v:=slot s) (by simp [results,Tryz.results158,go_sem]) rfl ⟨rfl, ?_⟩
 (repeat (first|with_reducible (first|exact hB|exact Below.refl _ _|refine Below.drew ?_|refine below_drewN ?_ _|refine Below.alloc ?_ ?_ _|refine Below.setCell ?_ ?_ _)|(focus (simp;first|done|omega))|omega))
end Go.Proofs.YtpneolgdghbinaaGreat
