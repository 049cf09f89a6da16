/- Several texts in one: SWay3, SCell2. -/
import Derived.WalkMore
import Derived.Test.YteffhdcankkfkaaGreatQListed26
namespace Go.Proofs.YteffhdcankkfkaaGreat
open Go.ChangeShapes Go.WideShapes Go.ChangeAt Go.RowKit Go.Joins Go.Shelf
set_option linter.unusedVariables false
set_option linter.unusedSimpArgs false
set_option maxRecDepth 100000
set_option maxHeartbeats 40000000
attribute [local go_sem] Oper.semAt_some
theorem Q2i {W W':World} {B:Nat} {c:Array Value} {t:TypeId} {z:Nat × Nat} {row:Option Nat} (h:W.heap[B]? =some (.cells c t z)) (d:W.grownBy W' row) (g:∀r,row=some r->∃o:Obj,W.heap[r]? =some o/\o.isCells=false):W'.heap[B]? =some (.cells c t z):=by
 have a:B < W.heap.size:=(KEq h);refine(d.block B a (fun e=>?_)).trans h;obtain⟨o,b,f⟩:=g B e.symm;rw[h]at b
 cases b
 simp[Obj.isCells]at f
theorem Q5v {B:Nat} {W W':World} (h:Below W.heap.size W W'):KeepsFrom B W W':=
 ⟨h.size,fun i o _ hi _=>(h.block i (KEq hi)).trans hi⟩
theorem Q5H (b f cap:Nat) (l:List Sl) (a p:Int) (w:World) (hn:0 < l.length) (hl:l.length<=1048576) (hf:Q0g a p=true) (hb:b < w.heap.size)
  (hc:∀i,i < l.length->∀j,j < Q0u.k->w.cell? ⟨b,f+i * Q0u.k+j,none⟩=(Q0u.cs (l.getD i Q0u.d))[j]?):
  Calls Tryz.prog 237 #[tab (.slice (some ⟨b,f,none⟩) l.length cap),QfW a p] w fun e w'=>e=.returned (.tuple #[.int .i64 (Q2x l a p).1,.bool (Q2x l a p).2])/\Below w.heap.size w w':=by
 refine(callsIn_wide (n:=4)).1 ?_;refine callsIn_of_wp_marks Tryz.func237 rfl trivial ?_ rfl;simp only[Tryz.ntmps237,List.size_toArray,List.length_cons,List.length_nil,Nat.reduceAdd,Nat.reduceSub,Array.replicate_succ,Array.replicate_zero,List.push_toArray,List.append_toArray,List.nil_append,List.cons_append]
 gi_wp2
 refine wpIn_wide.2 (wp_scope_straight ((wpIn_wide (n:=4)).1 ?_))
 gi_wp2
 refine wpIn_label ?_
 gi_wp2
 gi_wp2_with (refine⟨trivial, ?_⟩;gi_at_call 254;refine(Qgi (4 - 1) _ a p _).mono ?_;rintro e w' ⟨rfl,rfl⟩)
 have aa:((((((w.alloc (.cells #[(.slice (some ⟨b,f,none⟩) l.length cap)] 119)).alloc (.cells #[.int .i64 a,.int .i64 p] 73)).alloc (.cells #[.int .i64 (-1)] 3)).alloc (.cells #[.bool false] 4)).alloc (.cells #[(.slice (some ⟨b,f,none⟩) l.length cap)] 119)).alloc (.cells #[.int .i64 a,.int .i64 p] 73)).heap[w.heap.size+1]? =some (.cells #[.int .i64 a,.int .i64 p] 73 (0,0)):=(by have h:=World.alloc_heap_new (w.alloc (.cells #[(.slice (some ⟨b,f,none⟩) l.length cap)] 119)) (.cells #[.int .i64 a,.int .i64 p] 73);simp only[World.size_alloc]at h;exact(Below.heap_alloc _ _ _ (by simp <;> omega)).trans ((Below.heap_alloc _ _ _ (by simp <;> omega)).trans ((Below.heap_alloc _ _ _ (by simp <;> omega)).trans ((Below.heap_alloc _ _ _ (by simp <;> omega)).trans (h)))))
 have Z:((((((w.alloc (.cells #[(.slice (some ⟨b,f,none⟩) l.length cap)] 119)).alloc (.cells #[.int .i64 a,.int .i64 p] 73)).alloc (.cells #[.int .i64 (-1)] 3)).alloc (.cells #[.bool false] 4)).alloc (.cells #[(.slice (some ⟨b,f,none⟩) l.length cap)] 119)).alloc (.cells #[.int .i64 a,.int .i64 p] 73)).heap[w.heap.size+1+1]? =some (.cells #[.int .i64 (-1)] 3 (0,0)):=(by have h:=World.alloc_heap_new ((w.alloc (.cells #[(.slice (some ⟨b,f,none⟩) l.length cap)] 119)).alloc (.cells #[.int .i64 a,.int .i64 p] 73)) (.cells #[.int .i64 (-1)] 3);simp only[World.size_alloc]at h;exact(Below.heap_alloc _ _ _ (by simp <;> omega)).trans ((Below.heap_alloc _ _ _ (by simp <;> omega)).trans ((Below.heap_alloc _ _ _ (by simp <;> omega)).trans (h))))
 have ab:((((((w.alloc (.cells #[(.slice (some ⟨b,f,none⟩) l.length cap)] 119)).alloc (.cells #[.int .i64 a,.int .i64 p] 73)).alloc (.cells #[.int .i64 (-1)] 3)).alloc (.cells #[.bool false] 4)).alloc (.cells #[(.slice (some ⟨b,f,none⟩) l.length cap)] 119)).alloc (.cells #[.int .i64 a,.int .i64 p] 73)).heap[w.heap.size+1+1+1]? =some (.cells #[.bool false] 4 (0,0)):=(by have h:=World.alloc_heap_new (((w.alloc (.cells #[(.slice (some ⟨b,f,none⟩) l.length cap)] 119)).alloc (.cells #[.int .i64 a,.int .i64 p] 73)).alloc (.cells #[.int .i64 (-1)] 3)) (.cells #[.bool false] 4);simp only[World.size_alloc]at h;exact(Below.heap_alloc _ _ _ (by simp <;> omega)).trans ((Below.heap_alloc _ _ _ (by simp <;> omega)).trans (h)))
 have ac:((((((w.alloc (.cells #[(.slice (some ⟨b,f,none⟩) l.length cap)] 119)).alloc (.cells #[.int .i64 a,.int .i64 p] 73)).alloc (.cells #[.int .i64 (-1)] 3)).alloc (.cells #[.bool false] 4)).alloc (.cells #[(.slice (some ⟨b,f,none⟩) l.length cap)] 119)).alloc (.cells #[.int .i64 a,.int .i64 p] 73)).heap[w.heap.size+1+1+1+1]? =some (.cells #[(.slice (some ⟨b,f,none⟩) l.length cap)] 119 (0,0)):=(by have h:=World.alloc_heap_new ((((w.alloc (.cells #[(.slice (some ⟨b,f,none⟩) l.length cap)] 119)).alloc (.cells #[.int .i64 a,.int .i64 p] 73)).alloc (.cells #[.int .i64 (-1)] 3)).alloc (.cells #[.bool false] 4)) (.cells #[(.slice (some ⟨b,f,none⟩) l.length cap)] 119);simp only[World.size_alloc]at h;exact(Below.heap_alloc _ _ _ (by simp <;> omega)).trans (h))
 have O:((((((w.alloc (.cells #[(.slice (some ⟨b,f,none⟩) l.length cap)] 119)).alloc (.cells #[.int .i64 a,.int .i64 p] 73)).alloc (.cells #[.int .i64 (-1)] 3)).alloc (.cells #[.bool false] 4)).alloc (.cells #[(.slice (some ⟨b,f,none⟩) l.length cap)] 119)).alloc (.cells #[.int .i64 a,.int .i64 p] 73)).heap[w.heap.size+1+1+1+1+1]? =some (.cells #[.int .i64 a,.int .i64 p] 73 (0,0)):=(by have h:=World.alloc_heap_new (((((w.alloc (.cells #[(.slice (some ⟨b,f,none⟩) l.length cap)] 119)).alloc (.cells #[.int .i64 a,.int .i64 p] 73)).alloc (.cells #[.int .i64 (-1)] 3)).alloc (.cells #[.bool false] 4)).alloc (.cells #[(.slice (some ⟨b,f,none⟩) l.length cap)] 119)) (.cells #[.int .i64 a,.int .i64 p] 73);simp only[World.size_alloc]at h;exact h)
 have N:Below w.heap.size w ((((((w.alloc (.cells #[(.slice (some ⟨b,f,none⟩) l.length cap)] 119)).alloc (.cells #[.int .i64 a,.int .i64 p] 73)).alloc (.cells #[.int .i64 (-1)] 3)).alloc (.cells #[.bool false] 4)).alloc (.cells #[(.slice (some ⟨b,f,none⟩) l.length cap)] 119)).alloc (.cells #[.int .i64 a,.int .i64 p] 73)):=((((((Below.refl _ w).alloc (Kaq _) _).alloc (by simp) _).alloc (by simp <;> omega) _).alloc (by simp <;> omega) _).alloc (by simp <;> omega) _).alloc (by simp <;> omega) _
 have ai:((((((w.alloc (.cells #[(.slice (some ⟨b,f,none⟩) l.length cap)] 119)).alloc (.cells #[.int .i64 a,.int .i64 p] 73)).alloc (.cells #[.int .i64 (-1)] 3)).alloc (.cells #[.bool false] 4)).alloc (.cells #[(.slice (some ⟨b,f,none⟩) l.length cap)] 119)).alloc (.cells #[.int .i64 a,.int .i64 p] 73)).heap.size=w.heap.size+6:=by simp
 obtain⟨W0,P⟩:∃W0,((((((w.alloc (.cells #[(.slice (some ⟨b,f,none⟩) l.length cap)] 119)).alloc (.cells #[.int .i64 a,.int .i64 p] 73)).alloc (.cells #[.int .i64 (-1)] 3)).alloc (.cells #[.bool false] 4)).alloc (.cells #[(.slice (some ⟨b,f,none⟩) l.length cap)] 119)).alloc (.cells #[.int .i64 a,.int .i64 p] 73))=W0:=⟨_,rfl⟩;rw[P]at aa Z ab ac O N ai
 (try rw[P])
 clear P
 skip
 refine wpIn_rangeFunc_ownH rfl (by decide) (gf:=263) (lb:=#[.pointer (some ⟨w.heap.size+1+1+1+1,0,none⟩),.pointer (some ⟨w.heap.size+1+1+1+1+1,0,none⟩)]) rfl trivial (enters_of Tryz.func263 (by kernel_rfl) rfl)
  (Qfb (4 - 1) (by decide) (w.heap.size+1+1+1+1) (w.heap.size+1+1+1+1+1) w.heap.size b f cap l a p hn hl hf W0 (by omega) (by omega) hb (by omega) (Q05 ac 0 _ rfl) (Q05 O 0 _ rfl) (Q05 O 1 _ rfl) (fun i hi j hj=>(N.cell (p:=⟨b,f+i * Q0u.k+j,none⟩) hb).trans (hc i hi j hj)))
  (fun h k=>KpW.trans h k)
  (fun W l ob af ad ae ag ah=>⟨belowK_b (w:=W0) (by omega) W l ob af ad ae ag ah,(grownBy_putObj' W l af).block _ (by have:=(KEq ae);omega) (by simp;omega)⟩)
  KBq (fun _=>rfl)
  (fun s W=>(QbY a p s=none/\Boxed W (w.heap.size+1+1) 3 (.int .i64 (-1))/\Boxed W (w.heap.size+1+1+1) 4 (.bool false)/\W.heap[w.heap.size+1]? =some (.cells #[.int .i64 a,.int .i64 p] 73 (0,0))/\w.heap.size+6<=W.heap.size)/\Below w.heap.size w W)
  (fun c s W=>(c=.exit 0/\∃E:Int × Bool,QbY a p s=some E/\Boxed W (w.heap.size+1+1) 3 (.int .i64 E.1)/\Boxed W (w.heap.size+1+1+1) 4 (.bool E.2))/\Below w.heap.size w W)
  (OwnFrom.and (Own.from (fun q A B row hs J L=>by obtain⟨F,g,m,C,M⟩:=hs;exact⟨F,Q2i g J L,Q2i m J L,Q2i C J L,Kdq M J.size⟩) _) (ownFrom_below (Kaq _) (by omega)))
  (fun c=>OwnFrom.and (Own.from (fun q A B row hs J L=>by obtain⟨e0,E,F,g,m⟩:=hs;exact⟨e0,E,F,Q2i g J L,Q2i m J L⟩) _) (ownFrom_below (Kaq _) (by omega)))
  ⟨⟨rfl,Z,ab,aa,by omega⟩,N⟩
  (fun x a' W=> ∃Bx,w.heap.size+1+1+1+1+1 < Bx/\W.heap[Bx]? =some (.cells #[.bool x.2.u,.int .i64 x.2.a,.int .i64 x.2.p,.int .i64 x.2.v,.int .i64 x.2.t] 271 (0,0))/\a'={ tmps:=#[tab (.slice (some ⟨b,f,none⟩) l.length cap),QfW a p,.pointer (some ⟨w.heap.size,0,none⟩),.pointer (some ⟨w.heap.size+1,0,none⟩),.int .i64 0,.bool false,.pointer (some ⟨w.heap.size+1+1,0,none⟩),.pointer (some ⟨w.heap.size+1+1+1,0,none⟩),.int .i64 (x.1:Nat),.pointer (some ⟨Bx,0,none⟩),.agg #[(.slice (some ⟨b,f,none⟩) l.length cap)],.agg #[.int .i64 a,.int .i64 p],.func (.func 263) #[] #[.pointer (some ⟨w.heap.size+1+1+1+1,0,none⟩),.pointer (some ⟨w.heap.size+1+1+1+1+1,0,none⟩)],.int .i64 (x.1:Nat),slot x.2,undef,undef,undef,undef,undef,undef,undef,undef,undef,undef,undef,undef,undef],defers:=[] })
  (fun x a' _ X Y row hs J L=>by obtain⟨Bx,F,g,m⟩:=hs;exact⟨Bx,F,Q2i g J (fun r e=>(L r e).2),m⟩)
  ?assign ?body ?done ?stop
 case assign=>
  rintro y s x W K ⟨⟨F,g,m,C,M⟩,z⟩ hK
  gi_wp2
  refine hK _ _ ((KeepsOthers.alloc _ _).from _) ⟨(Below.refl _ W).alloc z.size _,Below.heap_alloc W _ _ (by omega)⟩ ⟨⟨F,g.alloc _,m.alloc _,(Below.heap_alloc W _ _ (by omega)).trans C,Kdq M (by simp)⟩,z.alloc z.size _⟩ ⟨W.heap.size,by omega,World.alloc_heap_new W _,rfl⟩
 case body=>
  rintro y s ⟨H,xs⟩ a' W ad ⟨r,L⟩ ⟨⟨F,g,m,C,M⟩,z⟩ ⟨Bx,aq,hX,rfl⟩ ar;obtain⟨su,R,V,sv,st⟩:=xs;dsimp only at hX;have am:=Q05 hX 0 _ rfl;have an:=Q05 hX 1 _ rfl;have ao:=Q05 hX 2 _ rfl;have aj:=Q05 C 0 _ rfl;have ak:=Q05 C 1 _ rfl;have cE:=g.cell;have fE:=g.frozen;have cO:=m.cell;have fO:=m.frozen;have U:=Q00 (Qe6 a p s (H,⟨su,R,V,sv,st⟩) F);have I:=Q00 (And.intro g (And.intro m (And.intro C z)));clear g m C z
  cases su with
  |false=>
   have T:=Q00 (show QbY a p (s++[(H,⟨false,R,V,sv,st⟩)])=some ((H:Int),false)from U.out.trans (by simp[Q6E]));clear U
   gi_wp2
   obtain⟨g,m,C,z⟩:=I.out;exact⟨(KeepsOthers.setCell _ _ _).from _,⟨rfl,((H:Int),false),T.out,g.set _,(Below.heap_setCell _ _ _ _ (by simp)).trans m⟩,z.setCell (p:=⟨w.heap.size+1+1,0,none⟩) (by simp;omega) _⟩
  |true=>
   by_cases hq:R=a/\V=p
   ·have T:=Q00 (show QbY a p (s++[(H,⟨true,R,V,sv,st⟩)])=some ((H:Int),true)from U.out.trans (by simp[Q6E,hq]))
    obtain⟨rfl,rfl⟩:=hq;clear U;have al:(W.setCell ⟨w.heap.size+1+1,0,none⟩ (.int .i64 (H:Nat))).cell? ⟨w.heap.size+1+1+1,0,none⟩=some (.bool false):=((Q2F (Below.heap_setCell _ _ _ _ (by simp))).trans cO);have ap:(W.setCell ⟨w.heap.size+1+1,0,none⟩ (.int .i64 (H:Nat))).frozen? ⟨w.heap.size+1+1+1,0,none⟩=false:=(Boxed.frozen (show Boxed _ _ 4 (.bool false)from(Below.heap_setCell _ _ _ _ (by simp)).trans I.out.2.1))
    gi_wp2
    obtain⟨g,m,C,z⟩:=I.out;refine⟨((KeepsOthers.setCell _ _ _).from _).trans ((KeepsOthers.setCell _ _ _).from _),⟨rfl,((H:Int),true),T.out,(Below.heap_setCell _ _ _ _ (by simp)).trans (g.set _), ?_⟩,(z.setCell (p:=⟨w.heap.size+1+1,0,none⟩) (by simp;omega) _).setCell (p:=⟨w.heap.size+1+1+1,0,none⟩) (by simp;omega) _⟩;have b3:Boxed (W.setCell ⟨w.heap.size+1+1,0,none⟩ (.int .i64 (H:Nat))) (w.heap.size+1+1+1) 4 (.bool false):=(Below.heap_setCell W ⟨w.heap.size+1+1,0,none⟩ _ (w.heap.size+1+1+1) (by simp)).trans m;exact b3.set _
   ·have T:=Q00 (show QbY a p (s++[(H,⟨true,R,V,sv,st⟩)])=none from U.out.trans (by simp[Q6E];exact fun h1 h2=>hq ⟨h1,h2⟩))
    clear U
    by_cases h1:R=a
    ·subst h1
     have h2:(V==p)=false:=beq_eq_false_iff_ne.2 (fun e=>hq ⟨rfl,e⟩);clear hq
     gi_wp2
     obtain⟨g,m,C,z⟩:=I.out;exact⟨Q5v KBq,⟨KBq,rfl⟩,⟨T.out,g,m,C,M⟩,z⟩
    ·have h2:(R==a)=false:=beq_eq_false_iff_ne.2 h1
     clear hq
     gi_wp2
     obtain⟨g,m,C,z⟩:=I.out;exact⟨Q5v KBq,⟨KBq,rfl⟩,⟨T.out,g,m,C,M⟩,z⟩
 case done=>
  rintro D ys W hD rfl ⟨⟨F,g,m,C,M⟩,z⟩ hK;have HE:=Q00 (QeU hn F);have cE:=g.cell;have cO:=m.cell;have I:=Q00 (And.intro g (And.intro m z));clear g m z
  gi_wp2
  refine wpIn_wide.2 ?_
  go_region
  gi_wp2
  rw[Exit.noGoto_ret];have G:W.drew.heap[D]? =some (.deferred (some [])):=hK;refine⟨by simp,.inl ⟨_,_,rfl,run_takeDeferred G, ?_⟩⟩;refine⟨.tuple #[.int .i64 (-1),.bool false],by simp[results,Tryz.f237,go_sem],by rw[HE.out],(KHq I.out.2.2).trans (belowK_b (w:=w) (Kaq _) W.drew D _ _ (by omega) G rfl rfl)⟩
 case stop=>
  rintro D c s W hD ⟨k,hk,rfl⟩ ⟨⟨rfl,E,F,g,m⟩,z⟩ hK;have HE:=Q00 (Qe0 hn hk F);have cE:=g.cell;have cO:=m.cell;have I:=Q00 (And.intro g (And.intro m z));clear g m z
  gi_wp2
  refine wpIn_wide.2 ?_
  go_region
  gi_wp2
  rw[Exit.noGoto_ret];have G:W.drew.heap[D]? =some (.deferred (some [])):=hK;refine⟨by simp,.inl ⟨_,_,rfl,run_takeDeferred G, ?_⟩⟩;refine⟨.tuple #[.int .i64 E.1,.bool E.2],by simp[results,Tryz.f237,go_sem],by rw[HE.out],(KHq I.out.2.2).trans (belowK_b (w:=w) (Kaq _) W.drew D _ _ (by omega) G rfl rfl)⟩
end Go.Proofs.YteffhdcankkfkaaGreat
namespace Go.Proofs.YteffhdcankkfkaaGreat
open Go.ChangeShapes Go.WideShapes Go.ChangeAt Go.RowKit Go.Joins
set_option linter.unusedVariables false
set_option linter.unusedSimpArgs false
set_option maxRecDepth 100000
set_option maxHeartbeats 40000000
def QbI (l:List Sl):Bool:=(List.range l.length).all (QaO l)
theorem Q6K {l:List Sl}:QbI l=true↔∀i,i < l.length->QaO l i=true:=by simp[QbI]
theorem Qgo {l:List Sl} {i:Nat} (hi:i < l.length) (h:QaO l i=false):false=QbI l:=by
 cases hb:QbI l with
 |false=>rfl
 |true=>rw[Q6K.1 hb i hi]at h;cases h
theorem Q96 {l:List Sl} (a:1<=l.length) (h2:l.length<=16) (h:Qak l l.length):QbI l=Q0k l:=by
 rw[Bool.eq_iff_iff,Q6K,Q10]
 constructor
 ·intro c
  exact⟨a,h2,fun i hi=>by unfold Q3g;rw[h i hi,c i hi];rfl⟩
 ·intro⟨_,_,b⟩ i hi
  have:=b i hi;unfold Q3g at this;rw[h i hi]at this
  simpa using this
theorem Qev {l:List Sl} {i:Nat} (h:(l.getD i sl0).u=false):QaO l i=true:=by unfold QaO;rw[h];rfl
theorem Qgc {l:List Sl} {i:Nat} (h:Q2x l (l.getD i sl0).a (l.getD i sl0).p=((i:Int),true)):QaO l i=true:=by unfold QaO;rw[h];cases(l.getD i sl0).u <;> simp
theorem Qgd {l:List Sl} {i:Nat} (hu:(l.getD i sl0).u=true) (h:Q2x l (l.getD i sl0).a (l.getD i sl0).p≠((i:Int),true)):QaO l i=false:=by unfold QaO;rw[hu,beq_eq_false_iff_ne.2 h];rfl
theorem Qh8 {l:List Sl} (b:0 < l.length) {a p:Int} {k:Nat} (c:(l.getD k sl0).u=true) (h:(Q2x l a p).1=(k:Int)):Q2x l a p=((k:Int),true):=by
 rcases Q3R l b a p with e|⟨q,d,⟨e,f⟩|⟨e,_⟩⟩
 ·rw[e]at h;exact absurd (show(-1:Int)=k from h) (by omega)
 ·rw[e]at h;simp at h;have:q=k:=by omega
  subst this;rw[c]at f;cases f
 ·rw[e]at h ⊢;simp at h;have:q=k:=by omega
  subst this;rfl
abbrev Q3m:TypeId:=271
abbrev QiY (lo hi:Nat) (w:World) (v:Value) (l:List Sl):Prop:=InL Q0u Q3m lo hi w v l
theorem Q3d (b c cap:Nat) (l:List Sl) (w:World) (T:0 < l.length) (hl:l.length<=1048576) (hs:Qak l l.length) (z:b < w.heap.size)
  (R:∀i,i < l.length->∀j,j < Q0u.k->w.cell? ⟨b,c+i * Q0u.k+j,none⟩=(Q0u.cs (l.getD i Q0u.d))[j]?):
  Calls Tryz.prog 233 #[tab (.slice (some ⟨b,c,none⟩) l.length cap)] w fun e w'=>e=.returned (.bool (QbI l))/\Below w.heap.size w w':=by
 have N:=Q00 R;have P:Hid (Below w.heap.size w (w.alloc (.cells #[.slice (some ⟨b,c,none⟩) l.length cap] 119))):=KBq.alloc (Kaq _) _
 have L:Hid ((w.alloc (.cells #[.slice (some ⟨b,c,none⟩) l.length cap] 119)).cell? ⟨w.heap.size,0,none⟩=some (.slice (some ⟨b,c,none⟩) l.length cap)):=by simp[Q00,go_sem,Hid]
 have M:w.heap.size < (w.alloc (.cells #[.slice (some ⟨b,c,none⟩) l.length cap] 119)).heap.size:=by simp
 clear R;go_enter Tryz.func233,Tryz.ntmps233;go_wp2;generalize w.alloc (.cells #[.slice (some ⟨b,c,none⟩) l.length cap] 119)=w0 at *
 go_loopw [10] (fun i wr=> ∃k:Nat,k<=l.length/\i=.int .i64 k/\Hid (∀j,j < k->QaO l j=true)/\Hid (Below w0.heap.size w0 wr))
  (fun i _=>l.length - (intOf i).toNat)
 case atStart=>exact⟨0,Kcq _,rfl,fun i hi=>absurd hi (KMq _),KBq⟩
 case round=>
  obtain⟨k,hk,rfl,D,m⟩:=hrel;have Y:=bKq0v0v0 m.out L.out M;have f:=Q00 (P.out.trans (m.out.mono P.out.size));have ab:w0.heap.size<=wr.heap.size:=m.out.size
  by_cases hlt:k < l.length
  ·obtain⟨s,B⟩:∃s,l.getD k sl0=s:=⟨_,rfl⟩
   have g:=RdL.slot (C:=w.heap.size) N.out k hlt;have F:=Q00 (hs k hlt);rw[B]at g F;have Z:=(f.out.cell (p:=⟨b,c+k * 5,none⟩) z).trans g.1;have e1:=(f.out.cell (p:=⟨b,c+k * 5+1,none⟩) z).trans g.2.1;have e2:=(f.out.cell (p:=⟨b,c+k * 5+2,none⟩) z).trans g.2.2.1;have e3:=(f.out.cell (p:=⟨b,c+k * 5+3,none⟩) z).trans g.2.2.2.1;have e4:=(f.out.cell (p:=⟨b,c+k * 5+4,none⟩) z).trans g.2.2.2.2
   have aa:(k:Int) < (l.length:Int):=by omega
   have G:=Q00 B;clear g B;obtain⟨su,u,v,U,st⟩:=s;simp only at Z e1 e2 e3 e4
   cases su with
   |false=>
    have J:Hid (∀j,j < k+1->QaO l j=true):=fun j I=>by
     rcases Nat.lt_succ_iff_lt_or_eq.1 I with h|h
     ·exact D.out j h
     ·rw[h];exact Qev (by rw[G.out])
    clear D;go_wp2;go_roundw
    case rel=>exact⟨k+1,hlt,by go_num,J,show Below _ _ _ by have hB:=m.out;(repeat (first|with_reducible (first|exact hB|exact KBq|refine KHq ?_|refine below_drewN ?_ _|refine KOq ?_ ?_ _|refine KNq ?_ ?_ _)|(focus (simp;first|done|omega))|omega))⟩
    case measure=>simp[intOf];omega
   |true=>
    obtain⟨H,t⟩:∃W,wr.alloc (.cells #[.bool true,.int .i64 u,.int .i64 v,.int .i64 U,.int .i64 st] Q3m)=W:=⟨_,rfl⟩
    have A:Hid (Below wr.heap.size wr H):=by rw[<-t];exact KBq.alloc (Kaq _) _
    have c0:H.cell? ⟨wr.heap.size,0,none⟩=some (.bool true):=by rw[<-t];simp[go_sem]
    have c1:H.cell? ⟨wr.heap.size,1,none⟩=some (.int .i64 u):=by rw[<-t];simp[go_sem]
    have c2:H.cell? ⟨wr.heap.size,2,none⟩=some (.int .i64 v):=by rw[<-t];simp[go_sem]
    have c5:=bKq0v0v0 A.out Y (show w.heap.size < wr.heap.size by omega);have q:=Q00 (f.out.trans (A.out.mono f.out.size));have O:=Q00 (m.out.trans (A.out.mono m.out.size));have y:=Q5H b c cap l u v H T hl ((Q8b (s:=⟨true,u,v,U,st⟩) rfl).1 F.out).1 (Kbq z q.out.size) (fun i hi j I=>(q.out.cell (p:=⟨b,c+i * Q0u.k+j,none⟩) z).trans (N.out i hi j I))
    by_cases hE:(Q2x l u v).1=(k:Int)
    ·have r:=Qh8 T (a:=u) (p:=v) (k:=k) (by rw[G.out]) hE
     have J:Hid (∀j,j < k+1->QaO l j=true):=fun j I=>by
      rcases Nat.lt_succ_iff_lt_or_eq.1 I with h|h
      ·exact D.out j h
      ·rw[h];exact Qgc (by rw[G.out];exact r)
     rw[r]at y;clear D hE r;go_wp2_with (go_at_call 237;refine y.mono ?_;rintro e w2 ⟨rfl,n⟩;have x:=Q00 (O.out.trans (n.mono O.out.size));clear n);go_roundw
     case rel=>exact⟨k+1,hlt,by go_num,J,x⟩
     case measure=>simp[intOf];omega
    ·have V:=Q00 (Qgo hlt (Qgd (by rw[G.out]) (by rw[G.out];exact fun h=>hE (by rw[h]))))
     have r:((Q2x l u v).1==(k:Int))=false:=beq_eq_false_iff_ne.2 hE;generalize Q2x l u v=E at *;clear D;go_wp2_with (go_at_call 237;refine y.mono ?_;rintro e w2 ⟨rfl,n⟩;have x:=Q00 (q.out.trans (n.mono q.out.size));clear n);go_ret;exact⟨Q03 V.out,x.out⟩
  ·have e:k=l.length:=by omega
   subst e;have X:=Q00 (show true=QbI l from(Q6K.2 D.out).symm);go_wp2;go_ret;exact⟨Q03 X.out,f.out⟩
theorem QfQ:(Tryz.prog.info? Q3m).map (fun i=>(i.zero,i.size,i.bytes))=some (some (.agg #[.bool false,.int .i64 0,.int .i64 0,.int .i64 0,.int .i64 0]),5,40):=by kernel_rfl
theorem Q5N (n:Nat) (w:World) (y:n<=1048576):
  Calls Tryz.prog 77 #[.int .i64 n] w fun e q=> ∃g,e=.returned (tab (.slice (some ⟨g,0,none⟩) n n))/\ownL Q0u Q3m q w.heap.size (.slice (some ⟨g,0,none⟩) n n) (List.replicate n sl0)/\Below w.heap.size w q:=by
 obtain⟨u,hi,i,j,l⟩:=info_parts QfQ;have m:Below w.heap.size w w:=KBq;go_enter Tryz.func77,Tryz.ntmps77;go_wp2_with (at_make;refine wpList_make_full _ rfl _ _ 117 rfl (w.heap.size+1) Q3m u (slot sl0) 5 Tryz.underlying117 hi i j _ _ _ _ n rfl rfl rfl rfl ?b2 ?b3 ?b4 ?_)
 case b2=>rw[l];omega
 case b3=>unfold maxLen;omega
 case b4=>simp
 intro c b a;have f:c.heap[w.heap.size]? =some (.cells #[.slice none 0 0] 119 (0,0)):=(a.block w.heap.size (by simp) (by simp)).trans (World.alloc_heap_new w _);have t:=Q05 f 0 _ rfl
 have x:c.frozen? ⟨w.heap.size,0,none⟩=false:=by simp[World.frozen?,f]
 have z:w.heap.size < c.heap.size:=(KEq f);have r:Hid (Below w.heap.size w c):=(m.alloc (Kaq _) _).grown a (by simp) (fun k h=>by cases h)
 have s:Hid (ownL Q0u Q3m c (w.heap.size+1) (.slice (some ⟨w.heap.size+1,0,none⟩) n n) (List.replicate n sl0)):=by
  unfold Hid ownL;rw[List.length_replicate]
  show c.ownsRow _ _ _ _ n ((List.replicate n Q0u.d).flatMap Q0u.cs)
  rw[<-Q11 Q0u (slot sl0) rfl];exact b
 clear b a m f;go_wp2;refine bodyPost_ret (v:=tab (.slice (some ⟨w.heap.size+1,0,none⟩) n n)) (by simp[results,Tryz.results77,go_sem,t]) rfl ⟨_,rfl, ?_, ?_⟩
 ·exact Q06 (ownsRow_setCell_below s.out (by simp) _) (by omega)
 ·exact r.out.setCell (p:=⟨w.heap.size,0,none⟩) (Kaq _) _
end Go.Proofs.YteffhdcankkfkaaGreat
