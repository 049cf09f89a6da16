/- Several texts in one: SWay3, SCell2. -/
import Derived.WalkMore
import Derived.Test.YtpneolgdghbinaaGreatQLearnsL06
namespace Go.Proofs.YtpneolgdghbinaaGreat
open Go.ChangeShapes Go.WideShapes Go.ChangeAt Go.RowKit Go.Joins Go.Shelf
set_option linter.unusedVariables false
set_option linter.unusedSimpArgs false
set_option maxRecDepth 100000
set_option maxHeartbeats 40000000
attribute [local go_sem] Oper.semAt_some
theorem Q2L {W W':World} {B:Nat} {c:Array Value} {t:TypeId} {z:Nat × Nat} {row:Option Nat} (h:W.heap[B]? =some (.cells c t z)) (g:W.grownBy W' row) (d:∀r,row=some r→∃o:Obj,W.heap[r]? =some o∧o.isCells=false):W'.heap[B]? =some (.cells c t z):=by
 have a:B < W.heap.size:=(Array.getElem?_eq_some_iff.1 h).1;refine (g.block B a (fun e=> ?_)).trans h;obtain ⟨o,b,f⟩:=d B e.symm;rw [h] at b
 cases b
 simp [Obj.isCells] at f
theorem Q6z {B:Nat} {W W':World} (h:Below W.heap.size W W'):KeepsFrom B W W':=
 ⟨h.size,fun i o _ hi _=> (h.block i (Array.getElem?_eq_some_iff.1 hi).1).trans hi⟩
theorem Q4D (b off cap:Nat) (l:List Sl) (a p:Int) (w:World) (hn:0 < l.length) (hl:l.length≤1048576) (hf:Q0h a p=true) (hb:b < w.heap.size)
  (hc:∀i,i < l.length→∀j,j < Q0g.k→w.cell? ⟨b,off+i * Q0g.k+j,none⟩=(Q0g.cs (l.getD i Q0g.d))[j]?):
  Calls Tryz.prog 151 #[tab (.slice (some ⟨b,off,none⟩) l.length cap),QgK a p] w fun e w'=> e=.returned (.tuple #[.int .i64 (Q0Z l a p).1,.bool (Q0Z l a p).2])∧Below w.heap.size w w':=by
 refine (callsIn_wide (n:=4)).1 ?_;refine callsIn_of_wp_marks Tryz.func151 rfl trivial ?_ rfl;simp only [Tryz.ntmps151,List.size_toArray,List.length_cons,List.length_nil,Nat.reduceAdd,Nat.reduceSub,Array.replicate_succ,Array.replicate_zero,List.push_toArray,List.append_toArray,List.nil_append,List.cons_append]
 gi_wp2
 refine wpIn_wide.2 (wp_scope_straight ((wpIn_wide (n:=4)).1 ?_))
 gi_wp2
 refine wpIn_label ?_
 gi_wp2
 gi_wp2_with (refine ⟨trivial, ?_⟩;gi_at_call 178;refine (Qgf (4 - 1) _ a p _).mono ?_;rintro e w' ⟨rfl,rfl⟩)
 have ad:((((((w.alloc (.cells #[(.slice (some ⟨b,off,none⟩) l.length cap)] 89)).alloc (.cells #[.int .i64 a,.int .i64 p] 36)).alloc (.cells #[.int .i64 (-1)] 3)).alloc (.cells #[.bool false] 4)).alloc (.cells #[(.slice (some ⟨b,off,none⟩) l.length cap)] 89)).alloc (.cells #[.int .i64 a,.int .i64 p] 36)).heap[w.heap.size+1]? =some (.cells #[.int .i64 a,.int .i64 p] 36 (0,0)):=(by have h:=World.alloc_heap_new (w.alloc (.cells #[(.slice (some ⟨b,off,none⟩) l.length cap)] 89)) (.cells #[.int .i64 a,.int .i64 p] 36);simp only [World.size_alloc] at h;exact (Below.heap_alloc _ _ _ (by simp <;> omega)).trans ((Below.heap_alloc _ _ _ (by simp <;> omega)).trans ((Below.heap_alloc _ _ _ (by simp <;> omega)).trans ((Below.heap_alloc _ _ _ (by simp <;> omega)).trans (h)))))
 have ae:((((((w.alloc (.cells #[(.slice (some ⟨b,off,none⟩) l.length cap)] 89)).alloc (.cells #[.int .i64 a,.int .i64 p] 36)).alloc (.cells #[.int .i64 (-1)] 3)).alloc (.cells #[.bool false] 4)).alloc (.cells #[(.slice (some ⟨b,off,none⟩) l.length cap)] 89)).alloc (.cells #[.int .i64 a,.int .i64 p] 36)).heap[w.heap.size+1+1]? =some (.cells #[.int .i64 (-1)] 3 (0,0)):=(by have h:=World.alloc_heap_new ((w.alloc (.cells #[(.slice (some ⟨b,off,none⟩) l.length cap)] 89)).alloc (.cells #[.int .i64 a,.int .i64 p] 36)) (.cells #[.int .i64 (-1)] 3);simp only [World.size_alloc] at h;exact (Below.heap_alloc _ _ _ (by simp <;> omega)).trans ((Below.heap_alloc _ _ _ (by simp <;> omega)).trans ((Below.heap_alloc _ _ _ (by simp <;> omega)).trans (h))))
 have Z:((((((w.alloc (.cells #[(.slice (some ⟨b,off,none⟩) l.length cap)] 89)).alloc (.cells #[.int .i64 a,.int .i64 p] 36)).alloc (.cells #[.int .i64 (-1)] 3)).alloc (.cells #[.bool false] 4)).alloc (.cells #[(.slice (some ⟨b,off,none⟩) l.length cap)] 89)).alloc (.cells #[.int .i64 a,.int .i64 p] 36)).heap[w.heap.size+1+1+1]? =some (.cells #[.bool false] 4 (0,0)):=(by have h:=World.alloc_heap_new (((w.alloc (.cells #[(.slice (some ⟨b,off,none⟩) l.length cap)] 89)).alloc (.cells #[.int .i64 a,.int .i64 p] 36)).alloc (.cells #[.int .i64 (-1)] 3)) (.cells #[.bool false] 4);simp only [World.size_alloc] at h;exact (Below.heap_alloc _ _ _ (by simp <;> omega)).trans ((Below.heap_alloc _ _ _ (by simp <;> omega)).trans (h)))
 have aa:((((((w.alloc (.cells #[(.slice (some ⟨b,off,none⟩) l.length cap)] 89)).alloc (.cells #[.int .i64 a,.int .i64 p] 36)).alloc (.cells #[.int .i64 (-1)] 3)).alloc (.cells #[.bool false] 4)).alloc (.cells #[(.slice (some ⟨b,off,none⟩) l.length cap)] 89)).alloc (.cells #[.int .i64 a,.int .i64 p] 36)).heap[w.heap.size+1+1+1+1]? =some (.cells #[(.slice (some ⟨b,off,none⟩) l.length cap)] 89 (0,0)):=(by have h:=World.alloc_heap_new ((((w.alloc (.cells #[(.slice (some ⟨b,off,none⟩) l.length cap)] 89)).alloc (.cells #[.int .i64 a,.int .i64 p] 36)).alloc (.cells #[.int .i64 (-1)] 3)).alloc (.cells #[.bool false] 4)) (.cells #[(.slice (some ⟨b,off,none⟩) l.length cap)] 89);simp only [World.size_alloc] at h;exact (Below.heap_alloc _ _ _ (by simp <;> omega)).trans (h))
 have P:((((((w.alloc (.cells #[(.slice (some ⟨b,off,none⟩) l.length cap)] 89)).alloc (.cells #[.int .i64 a,.int .i64 p] 36)).alloc (.cells #[.int .i64 (-1)] 3)).alloc (.cells #[.bool false] 4)).alloc (.cells #[(.slice (some ⟨b,off,none⟩) l.length cap)] 89)).alloc (.cells #[.int .i64 a,.int .i64 p] 36)).heap[w.heap.size+1+1+1+1+1]? =some (.cells #[.int .i64 a,.int .i64 p] 36 (0,0)):=(by have h:=World.alloc_heap_new (((((w.alloc (.cells #[(.slice (some ⟨b,off,none⟩) l.length cap)] 89)).alloc (.cells #[.int .i64 a,.int .i64 p] 36)).alloc (.cells #[.int .i64 (-1)] 3)).alloc (.cells #[.bool false] 4)).alloc (.cells #[(.slice (some ⟨b,off,none⟩) l.length cap)] 89)) (.cells #[.int .i64 a,.int .i64 p] 36);simp only [World.size_alloc] at h;exact h)
 have M:Below w.heap.size w ((((((w.alloc (.cells #[(.slice (some ⟨b,off,none⟩) l.length cap)] 89)).alloc (.cells #[.int .i64 a,.int .i64 p] 36)).alloc (.cells #[.int .i64 (-1)] 3)).alloc (.cells #[.bool false] 4)).alloc (.cells #[(.slice (some ⟨b,off,none⟩) l.length cap)] 89)).alloc (.cells #[.int .i64 a,.int .i64 p] 36)):=((((((Below.refl _ w).alloc (Kaq _) _).alloc (by simp) _).alloc (by simp <;> omega) _).alloc (by simp <;> omega) _).alloc (by simp <;> omega) _).alloc (by simp <;> omega) _
 have ag:((((((w.alloc (.cells #[(.slice (some ⟨b,off,none⟩) l.length cap)] 89)).alloc (.cells #[.int .i64 a,.int .i64 p] 36)).alloc (.cells #[.int .i64 (-1)] 3)).alloc (.cells #[.bool false] 4)).alloc (.cells #[(.slice (some ⟨b,off,none⟩) l.length cap)] 89)).alloc (.cells #[.int .i64 a,.int .i64 p] 36)).heap.size=w.heap.size+6:=by simp
 obtain ⟨W0,L⟩:∃W0,((((((w.alloc (.cells #[(.slice (some ⟨b,off,none⟩) l.length cap)] 89)).alloc (.cells #[.int .i64 a,.int .i64 p] 36)).alloc (.cells #[.int .i64 (-1)] 3)).alloc (.cells #[.bool false] 4)).alloc (.cells #[(.slice (some ⟨b,off,none⟩) l.length cap)] 89)).alloc (.cells #[.int .i64 a,.int .i64 p] 36))=W0:=⟨_,rfl⟩;rw [L] at ad ae Z aa P M ag
 (try rw [L])
 clear L
 skip
 refine wpIn_rangeFunc_ownH rfl (by decide) (gf:=187) (lb:=#[.pointer (some ⟨w.heap.size+1+1+1+1,0,none⟩),.pointer (some ⟨w.heap.size+1+1+1+1+1,0,none⟩)]) rfl trivial (enters_of Tryz.func187 (by kernel_rfl) rfl)
  (Qet (4 - 1) (by decide) (w.heap.size+1+1+1+1) (w.heap.size+1+1+1+1+1) w.heap.size b off cap l a p hn hl hf W0 (by omega) (by omega) hb (by omega) (Q0m aa 0 _ rfl) (Q0m P 0 _ rfl) (Q0m P 1 _ rfl) (fun i hi j hj=> (M.cell (p:=⟨b,off+i * Q0g.k+j,none⟩) hb).trans (hc i hi j hj)))
  (fun h k=> KpW.trans h k)
  (fun W l ob ac V ab ah af=> ⟨belowK_b (w:=W0) (by omega) W l ob ac V ab ah af,(grownBy_putObj' W l ac).block _ (by have:=(Array.getElem?_eq_some_iff.1 ab).1;omega) (by simp;omega)⟩)
  (Below.refl _ _) (fun _=> rfl)
  (fun m W=> (Q7s a p m=none∧Boxed W (w.heap.size+1+1) 3 (.int .i64 (-1))∧Boxed W (w.heap.size+1+1+1) 4 (.bool false)∧W.heap[w.heap.size+1]? =some (.cells #[.int .i64 a,.int .i64 p] 36 (0,0))∧w.heap.size+6≤W.heap.size)∧Below w.heap.size w W)
  (fun c m W=> (c=.exit 0∧∃E:Int × Bool,Q7s a p m=some E∧Boxed W (w.heap.size+1+1) 3 (.int .i64 E.1)∧Boxed W (w.heap.size+1+1+1) 4 (.bool E.2))∧Below w.heap.size w W)
  (OwnFrom.and (Own.from (fun q A B row hs I J=> by obtain ⟨C,f,g,z,N⟩:=hs;exact ⟨C,Q2L f I J,Q2L g I J,Q2L z I J,Kdq N I.size⟩) _) (ownFrom_below (Kaq _) (by omega)))
  (fun c=> OwnFrom.and (Own.from (fun q A B row hs I J=> by obtain ⟨e0,E,C,f,g⟩:=hs;exact ⟨e0,E,C,Q2L f I J,Q2L g I J⟩) _) (ownFrom_below (Kaq _) (by omega)))
  ⟨⟨rfl,ae,Z,ad,by omega⟩,M⟩
  (fun x a' W=> ∃Bx,w.heap.size+1+1+1+1+1 < Bx∧W.heap[Bx]? =some (.cells #[.bool x.2.u,.int .i64 x.2.a,.int .i64 x.2.p,.int .i64 x.2.v,.int .i64 x.2.t] 165 (0,0))∧a'={ tmps:=#[tab (.slice (some ⟨b,off,none⟩) l.length cap),QgK a p,.pointer (some ⟨w.heap.size,0,none⟩),.pointer (some ⟨w.heap.size+1,0,none⟩),.int .i64 0,.bool false,.pointer (some ⟨w.heap.size+1+1,0,none⟩),.pointer (some ⟨w.heap.size+1+1+1,0,none⟩),.int .i64 (x.1:Nat),.pointer (some ⟨Bx,0,none⟩),.agg #[(.slice (some ⟨b,off,none⟩) l.length cap)],.agg #[.int .i64 a,.int .i64 p],.func (.func 187) #[] #[.pointer (some ⟨w.heap.size+1+1+1+1,0,none⟩),.pointer (some ⟨w.heap.size+1+1+1+1+1,0,none⟩)],.int .i64 (x.1:Nat),slot x.2,undef,undef,undef,undef,undef,undef,undef,undef,undef,undef,undef,undef,undef],defers:=[] })
  (fun x a' _ X Y row hs I J=> by obtain ⟨Bx,C,f,g⟩:=hs;exact ⟨Bx,C,Q2L f I (fun r e=> (J r e).2),g⟩)
  ?assign ?body ?done ?stop
 case assign=>
  rintro y m x W K ⟨⟨C,f,g,z,N⟩,s⟩ hK
  gi_wp2
  refine hK _ _ ((KeepsOthers.alloc _ _).from _) ⟨(Below.refl _ W).alloc s.size _,Below.heap_alloc W _ _ (by omega)⟩ ⟨⟨C,f.alloc _,g.alloc _,(Below.heap_alloc W _ _ (by omega)).trans z,Kdq N (by simp)⟩,s.alloc s.size _⟩ ⟨W.heap.size,by omega,World.alloc_heap_new W _,rfl⟩
 case body=>
  rintro y m ⟨G,xs⟩ a' W V ⟨r,J⟩ ⟨⟨C,f,g,z,N⟩,s⟩ ⟨Bx,ao,hX,rfl⟩ aj;obtain ⟨su,O,R,sv,st⟩:=xs;dsimp only at hX;have an:=Q0m hX 0 _ rfl;have ai:=Q0m hX 1 _ rfl;have am:=Q0m hX 2 _ rfl;have aq:=Q0m z 0 _ rfl;have ak:=Q0m z 1 _ rfl;have cE:=f.cell;have fE:=f.frozen;have cO:=g.cell;have fO:=g.frozen;have U:=Q01 (Q7f a p m (G,⟨su,O,R,sv,st⟩) C);have H:=Q01 (And.intro f (And.intro g (And.intro z s)));clear f g z s
  cases su with
  |false=>
   have T:=Q01 (show Q7s a p (m++[(G,⟨false,O,R,sv,st⟩)])=some ((G:Int),false) from U.out.trans (by simp [Q3H]));clear U
   gi_wp2
   obtain ⟨f,g,z,s⟩:=H.out;exact ⟨(KeepsOthers.setCell _ _ _).from _,⟨rfl,((G:Int),false),T.out,f.set _,(Below.heap_setCell _ _ _ _ (by simp)).trans g⟩,s.setCell (p:=⟨w.heap.size+1+1,0,none⟩) (by simp;omega) _⟩
  |true=>
   by_cases hq:O=a∧R=p
   ·have T:=Q01 (show Q7s a p (m++[(G,⟨true,O,R,sv,st⟩)])=some ((G:Int),true) from U.out.trans (by simp [Q3H,hq]))
    obtain ⟨rfl,rfl⟩:=hq;clear U;have al:(W.setCell ⟨w.heap.size+1+1,0,none⟩ (.int .i64 (G:Nat))).cell? ⟨w.heap.size+1+1+1,0,none⟩=some (.bool false):=((Q3m (Below.heap_setCell _ _ _ _ (by simp))).trans cO);have ap:(W.setCell ⟨w.heap.size+1+1,0,none⟩ (.int .i64 (G:Nat))).frozen? ⟨w.heap.size+1+1+1,0,none⟩=false:=(Boxed.frozen (show Boxed _ _ 4 (.bool false) from (Below.heap_setCell _ _ _ _ (by simp)).trans H.out.2.1))
    gi_wp2
    obtain ⟨f,g,z,s⟩:=H.out;refine ⟨((KeepsOthers.setCell _ _ _).from _).trans ((KeepsOthers.setCell _ _ _).from _),⟨rfl,((G:Int),true),T.out,(Below.heap_setCell _ _ _ _ (by simp)).trans (f.set _), ?_⟩,(s.setCell (p:=⟨w.heap.size+1+1,0,none⟩) (by simp;omega) _).setCell (p:=⟨w.heap.size+1+1+1,0,none⟩) (by simp;omega) _⟩;have b3:Boxed (W.setCell ⟨w.heap.size+1+1,0,none⟩ (.int .i64 (G:Nat))) (w.heap.size+1+1+1) 4 (.bool false):=(Below.heap_setCell W ⟨w.heap.size+1+1,0,none⟩ _ (w.heap.size+1+1+1) (by simp)).trans g;exact b3.set _
   ·have T:=Q01 (show Q7s a p (m++[(G,⟨true,O,R,sv,st⟩)])=none from U.out.trans (by simp [Q3H];exact fun h1 h2=> hq ⟨h1,h2⟩))
    clear U
    by_cases h1:O=a
    ·subst h1
     have h2:(R==p)=false:=beq_eq_false_iff_ne.2 (fun e=> hq ⟨rfl,e⟩);clear hq
     gi_wp2
     obtain ⟨f,g,z,s⟩:=H.out;exact ⟨Q6z (Below.refl _ _),⟨Below.refl _ _,rfl⟩,⟨T.out,f,g,z,N⟩,s⟩
    ·have h2:(O==a)=false:=beq_eq_false_iff_ne.2 h1
     clear hq
     gi_wp2
     obtain ⟨f,g,z,s⟩:=H.out;exact ⟨Q6z (Below.refl _ _),⟨Below.refl _ _,rfl⟩,⟨T.out,f,g,z,N⟩,s⟩
 case done=>
  rintro D ys W hD rfl ⟨⟨C,f,g,z,N⟩,s⟩ hK;have HE:=Q01 (Qe6 hn C);have cE:=f.cell;have cO:=g.cell;have H:=Q01 (And.intro f (And.intro g s));clear f g s
  gi_wp2
  refine wpIn_wide.2 ?_
  go_region
  gi_wp2
  rw [Exit.noGoto_ret];have F:W.drew.heap[D]? =some (.deferred (some [])):=hK;refine ⟨by simp,.inl ⟨_,_,rfl,run_takeDeferred F, ?_⟩⟩;refine ⟨.tuple #[.int .i64 (-1),.bool false],by simp [results,Tryz.f151,go_sem],by rw [HE.out],(Below.drew H.out.2.2).trans (belowK_b (w:=w) (Kaq _) W.drew D _ _ (by omega) F rfl rfl)⟩
 case stop=>
  rintro D c m W hD ⟨k,hk,rfl⟩ ⟨⟨rfl,E,C,f,g⟩,s⟩ hK;have HE:=Q01 (Q80 hn hk C);have cE:=f.cell;have cO:=g.cell;have H:=Q01 (And.intro f (And.intro g s));clear f g s
  gi_wp2
  refine wpIn_wide.2 ?_
  go_region
  gi_wp2
  rw [Exit.noGoto_ret];have F:W.drew.heap[D]? =some (.deferred (some [])):=hK;refine ⟨by simp,.inl ⟨_,_,rfl,run_takeDeferred F, ?_⟩⟩;refine ⟨.tuple #[.int .i64 E.1,.bool E.2],by simp [results,Tryz.f151,go_sem],by rw [HE.out],(Below.drew H.out.2.2).trans (belowK_b (w:=w) (Kaq _) W.drew D _ _ (by omega) F rfl rfl)⟩
end Go.Proofs.YtpneolgdghbinaaGreat
namespace Go.Proofs.YtpneolgdghbinaaGreat
open Go.ChangeShapes Go.WideShapes Go.ChangeAt Go.RowKit Go.Joins
set_option linter.unusedVariables false
set_option linter.unusedSimpArgs false
set_option maxRecDepth 100000
set_option maxHeartbeats 40000000
def QbR (l:List Sl):Bool:=(List.range l.length).all (Q9S l)
theorem Q7i {l:List Sl}:QbR l=true↔∀i,i < l.length→Q9S l i=true:=by simp [QbR]
theorem Qhd {l:List Sl} {i:Nat} (hi:i < l.length) (h:Q9S l i=false):false=QbR l:=by
 cases hb:QbR l with
 |false=> rfl
 |true=> rw [Q7i.1 hb i hi] at h;cases h
theorem Q9l {l:List Sl} (c:1≤l.length) (h2:l.length≤16) (h:Q7l l l.length):QbR l=Q0c l:=by
 rw [Bool.eq_iff_iff,Q7i,Q07]
 constructor
 ·intro a
  exact ⟨c,h2,fun i hi=> by unfold Q3s;rw [h i hi,a i hi];rfl⟩
 ·intro ⟨_,_,b⟩ i hi
  have:=b i hi;unfold Q3s at this;rw [h i hi] at this
  simpa using this
theorem Qfe {l:List Sl} {i:Nat} (h:(l.getD i sl0).u=false):Q9S l i=true:=by unfold Q9S;rw [h];rfl
theorem Qhe {l:List Sl} {i:Nat} (h:Q0Z l (l.getD i sl0).a (l.getD i sl0).p=((i:Int),true)):Q9S l i=true:=by unfold Q9S;rw [h];cases (l.getD i sl0).u <;> simp
theorem Qgy {l:List Sl} {i:Nat} (hu:(l.getD i sl0).u=true) (h:Q0Z l (l.getD i sl0).a (l.getD i sl0).p≠((i:Int),true)):Q9S l i=false:=by unfold Q9S;rw [hu,beq_eq_false_iff_ne.2 h];rfl
theorem Qin {l:List Sl} (b:0 < l.length) {a p:Int} {k:Nat} (c:(l.getD k sl0).u=true) (h:(Q0Z l a p).1=(k:Int)):Q0Z l a p=((k:Int),true):=by
 rcases Q1f l b a p with e|⟨q,d,⟨e,f⟩|⟨e,_⟩⟩
 ·rw [e] at h;exact absurd (show (-1:Int)=k from h) (by omega)
 ·rw [e] at h;simp at h;have:q=k:=by omega
  subst this;rw [c] at f;cases f
 ·rw [e] at h ⊢;simp at h;have:q=k:=by omega
  subst this;rfl
abbrev Q1H:TypeId:=165
theorem Q4a (b off cap:Nat) (l:List Sl) (w:World) (O:0 < l.length) (hl:l.length≤1048576) (hs:Q7l l l.length) (x:b < w.heap.size)
  (T:∀i,i < l.length→∀j,j < Q0g.k→w.cell? ⟨b,off+i * Q0g.k+j,none⟩=(Q0g.cs (l.getD i Q0g.d))[j]?):
  Calls Tryz.prog 126 #[tab (.slice (some ⟨b,off,none⟩) l.length cap)] w fun e Z=> e=.returned (.bool (QbR l))∧Below w.heap.size w Z:=by
 have P:=Q01 T;have N:Hid (Below w.heap.size w (w.alloc (.cells #[.slice (some ⟨b,off,none⟩) l.length cap] 89))):=(Below.refl _ _).alloc (Kaq _) _
 have I:Hid ((w.alloc (.cells #[.slice (some ⟨b,off,none⟩) l.length cap] 89)).cell? ⟨w.heap.size,0,none⟩=some (.slice (some ⟨b,off,none⟩) l.length cap)):=by simp [Q01,go_sem,Hid]
 have J:w.heap.size < (w.alloc (.cells #[.slice (some ⟨b,off,none⟩) l.length cap] 89)).heap.size:=by simp
 clear T;go_enter Tryz.func126,Tryz.ntmps126;go_wp2;generalize w.alloc (.cells #[.slice (some ⟨b,off,none⟩) l.length cap] 89)=w0 at *
 go_loopw [10] (fun i wr=> ∃k:Nat,k≤l.length∧i=.int .i64 k∧Hid (∀j,j < k→Q9S l j=true)∧Hid (Below w0.heap.size w0 wr))
  (fun i _=> l.length - (intOf i).toNat)
 case atStart=> exact ⟨0,Kcq _,rfl,fun i hi=> absurd hi (Nat.not_lt_zero _),Below.refl _ _⟩
 case round=>
  obtain ⟨k,hk,rfl,B,g⟩:=hrel;have d0:=bKq0v0v0 g.out I.out J;have c:=Q01 (N.out.trans (g.out.mono N.out.size));have U:w0.heap.size≤wr.heap.size:=g.out.size
  by_cases hlt:k < l.length
  ·obtain ⟨s,z⟩:∃s,l.getD k sl0=s:=⟨_,rfl⟩
   have f:=RdL.slot (C:=w.heap.size) P.out k hlt;have F:=Q01 (hs k hlt);rw [z] at f F;have e0:=(c.out.cell (p:=⟨b,off+k * 5,none⟩) x).trans f.1;have X:=(c.out.cell (p:=⟨b,off+k * 5+1,none⟩) x).trans f.2.1;have e2:=(c.out.cell (p:=⟨b,off+k * 5+2,none⟩) x).trans f.2.2.1;have e3:=(c.out.cell (p:=⟨b,off+k * 5+3,none⟩) x).trans f.2.2.2.1;have V:=(c.out.cell (p:=⟨b,off+k * 5+4,none⟩) x).trans f.2.2.2.2
   have aa:(k:Int) < (l.length:Int):=by omega
   have H:=Q01 z;clear f z;obtain ⟨su,u,t,R,st⟩:=s;simp only at e0 X e2 e3 V
   cases su with
   |false=>
    have L:Hid (∀j,j < k+1→Q9S l j=true):=fun j D=> by
     rcases Nat.lt_succ_iff_lt_or_eq.1 D with h|h
     ·exact B.out j h
     ·rw [h];exact Qfe (by rw [H.out])
    clear B;go_wp2;go_roundw
    case rel=> exact ⟨k+1,hlt,by go_num,L,show Below _ _ _ by have Y:=g.out;(repeat (first|with_reducible (first|exact Y|exact Below.refl _ _|refine Below.drew ?_|refine below_drewN ?_ _|refine Below.alloc ?_ ?_ _|refine Below.setCell ?_ ?_ _)|(focus (simp;first|done|omega))|omega))⟩
    case measure=> simp [intOf];omega
   |true=>
    obtain ⟨G,n⟩:∃W,wr.alloc (.cells #[.bool true,.int .i64 u,.int .i64 t,.int .i64 R,.int .i64 st] Q1H)=W:=⟨_,rfl⟩
    have y:Hid (Below wr.heap.size wr G):=by rw [←n];exact (Below.refl _ _).alloc (Kaq _) _
    have c0:G.cell? ⟨wr.heap.size,0,none⟩=some (.bool true):=by rw [←n];simp [go_sem]
    have c1:G.cell? ⟨wr.heap.size,1,none⟩=some (.int .i64 u):=by rw [←n];simp [go_sem]
    have c2:G.cell? ⟨wr.heap.size,2,none⟩=some (.int .i64 t):=by rw [←n];simp [go_sem]
    have c5:=bKq0v0v0 y.out d0 (show w.heap.size < wr.heap.size by omega);have r:=Q01 (c.out.trans (y.out.mono c.out.size));have M:=Q01 (g.out.trans (y.out.mono g.out.size));have v:=Q4D b off cap l u t G O hl ((Q3M (s:=⟨true,u,t,R,st⟩) rfl).1 F.out).1 (Kbq x r.out.size) (fun i hi j D=> (r.out.cell (p:=⟨b,off+i * Q0g.k+j,none⟩) x).trans (P.out i hi j D))
    by_cases hE:(Q0Z l u t).1=(k:Int)
    ·have q:=Qin O (a:=u) (p:=t) (k:=k) (by rw [H.out]) hE
     have L:Hid (∀j,j < k+1→Q9S l j=true):=fun j D=> by
      rcases Nat.lt_succ_iff_lt_or_eq.1 D with h|h
      ·exact B.out j h
      ·rw [h];exact Qhe (by rw [H.out];exact q)
     rw [q] at v;clear B hE q;go_wp2_with (go_at_call 151;refine v.mono ?_;rintro e w2 ⟨rfl,m⟩;have A:=Q01 (M.out.trans (m.mono M.out.size));clear m);go_roundw
     case rel=> exact ⟨k+1,hlt,by go_num,L,A⟩
     case measure=> simp [intOf];omega
    ·have HN:=Q01 (Qhd hlt (Qgy (by rw [H.out]) (by rw [H.out];exact fun h=> hE (by rw [h]))))
     have q:((Q0Z l u t).1==(k:Int))=false:=beq_eq_false_iff_ne.2 hE;generalize Q0Z l u t=E at *;clear B;go_wp2_with (go_at_call 151;refine v.mono ?_;rintro e w2 ⟨rfl,m⟩;have A:=Q01 (r.out.trans (m.mono r.out.size));clear m);go_ret;exact ⟨Q0d HN.out,A.out⟩
  ·have e:k=l.length:=by omega
   subst e;have HY:=Q01 (show true=QbR l from (Q7i.2 B.out).symm);go_wp2;go_ret;exact ⟨Q0d HY.out,c.out⟩
theorem Qhb:(Tryz.prog.info? Q1H).map (fun i=> (i.zero,i.size,i.bytes))=some (some (.agg #[.bool false,.int .i64 0,.int .i64 0,.int .i64 0,.int .i64 0]),5,40):=by kernel_rfl
theorem Q4e (n:Nat) (w:World) (z:n≤1048576):
  Calls Tryz.prog 114 #[.int .i64 n] w fun e q=> ∃g,e=.returned (tab (.slice (some ⟨g,0,none⟩) n n))∧ownL Q0g Q1H q w.heap.size (.slice (some ⟨g,0,none⟩) n n) (List.replicate n sl0)∧Below w.heap.size w q:=by
 obtain ⟨r,hi,i,j,l⟩:=info_parts Qhb;have m:Below w.heap.size w w:=Below.refl _ _;go_enter Tryz.func114,Tryz.ntmps114;go_wp2_with (at_make;refine wpList_make_full _ rfl _ _ 87 rfl (w.heap.size+1) Q1H r (slot sl0) 5 Tryz.underlying87 hi i j _ _ _ _ n rfl rfl rfl rfl ?b2 ?b3 ?b4 ?_)
 case b2=> rw [l];omega
 case b3=> unfold maxLen;omega
 case b4=> simp
 intro c b a;have f:c.heap[w.heap.size]? =some (.cells #[.slice none 0 0] 89 (0,0)):=(a.block w.heap.size (by simp) (by simp)).trans (World.alloc_heap_new w _);have u:=Q0m f 0 _ rfl
 have x:c.frozen? ⟨w.heap.size,0,none⟩=false:=by simp [World.frozen?,f]
 have y:w.heap.size < c.heap.size:=(Array.getElem?_eq_some_iff.1 f).1;have t:Hid (Below w.heap.size w c):=(m.alloc (Kaq _) _).grown a (by simp) (fun k h=> by cases h)
 have s:Hid (ownL Q0g Q1H c (w.heap.size+1) (.slice (some ⟨w.heap.size+1,0,none⟩) n n) (List.replicate n sl0)):=by
  unfold Hid ownL;rw [List.length_replicate]
  show c.ownsRow _ _ _ _ n ((List.replicate n Q0g.d).flatMap Q0g.cs)
  rw [←Q3B Q0g (slot sl0) rfl];exact b
 clear b a m f;go_wp2;refine bodyPost_ret (v:=tab (.slice (some ⟨w.heap.size+1,0,none⟩) n n)) (by simp [results,Tryz.results114,go_sem,u]) rfl ⟨_,rfl, ?_, ?_⟩
 ·exact Q04 (ownsRow_setCell_below s.out (by simp) _) (by omega)
 ·exact t.out.setCell (p:=⟨w.heap.size,0,none⟩) (Kaq _) _
theorem Qdd (s:Sl) (w:World):
  Calls Tryz.prog 158 #[slot s] w fun e b=> e=.returned (slot s)∧Below w.heap.size w b:=by
 have a:Below w.heap.size w w:=Below.refl _ _;go_enter Tryz.func158,Tryz.ntmps158;go_wp2;refine bodyPost_ret (v:=slot s) (by simp [results,Tryz.results158,go_sem]) rfl ⟨rfl, ?_⟩
 (repeat (first|with_reducible (first|exact a|exact Below.refl _ _|refine Below.drew ?_|refine below_drewN ?_ _|refine Below.alloc ?_ ?_ _|refine Below.setCell ?_ ?_ _)|(focus (simp;first|done|omega))|omega))
end Go.Proofs.YtpneolgdghbinaaGreat
