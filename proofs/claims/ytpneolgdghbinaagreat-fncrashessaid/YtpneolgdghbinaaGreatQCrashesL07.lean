/- Several texts in one: SWay3, SCell2. -/
import Derived.WalkMore
import Derived.Test.YtpneolgdghbinaaGreatQCrashesL06
namespace Go.Proofs.YtpneolgdghbinaaGreat
open Go.ChangeShapes Go.WideShapes Go.ChangeAt Go.RowKit Go.Joins Go.Shelf
set_option linter.unusedVariables false
set_option linter.unusedSimpArgs false
set_option maxRecDepth 100000
set_option maxHeartbeats 40000000
attribute [local go_sem] Oper.semAt_some
theorem Q2C {W W':World} {B:Nat} {c:Array Value} {t:TypeId} {z:Nat × Nat} {row:Option Nat} (h:W.heap[B]? =some (.cells c t z)) (d:W.grownBy W' row) (g:∀r,row=some r->∃o:Obj,W.heap[r]? =some o/\o.isCells=false):W'.heap[B]? =some (.cells c t z):=by
 have a:B < W.heap.size:=(KEq h);refine(d.block B a (fun e=>?_)).trans h;obtain⟨o,b,f⟩:=g B e.symm;rw[h]at b
 cases b
 simp[Obj.isCells]at f
theorem Q6q {B:Nat} {W W':World} (h:Below W.heap.size W W'):KeepsFrom B W W':=
 ⟨h.size,fun i o _ hi _=>(h.block i (KEq hi)).trans hi⟩
theorem Q6r (b off cap:Nat) (l:List Sl) (a p:Int) (w:World) (hn:0 < l.length) (hl:l.length<=1048576) (hf:Q0o a p=true) (hb:b < w.heap.size)
  (hc:∀i,i < l.length->∀j,j < Q0g.k->w.cell? ⟨b,off+i * Q0g.k+j,none⟩=(Q0g.cs (l.getD i Q0g.d))[j]?):
  Calls Tryz.prog 151 #[tab (.slice (some ⟨b,off,none⟩) l.length cap),Qg5 a p] w fun e w'=>e=.returned (.tuple #[.int .i64 (Q1n l a p).1,.bool (Q1n l a p).2])/\Below w.heap.size w w':=by
 refine(callsIn_wide (n:=4)).1 ?_;refine callsIn_of_wp_marks Tryz.func151 rfl trivial ?_ rfl;simp only[Tryz.ntmps151,List.size_toArray,List.length_cons,List.length_nil,Nat.reduceAdd,Nat.reduceSub,Array.replicate_succ,Array.replicate_zero,List.push_toArray,List.append_toArray,List.nil_append,List.cons_append]
 gi_wp2
 refine wpIn_wide.2 (wp_scope_straight ((wpIn_wide (n:=4)).1 ?_))
 gi_wp2
 refine wpIn_label ?_
 gi_wp2
 gi_wp2_with (refine⟨trivial, ?_⟩;gi_at_call 178;refine(Qgd (4 - 1) _ a p _).mono ?_;rintro e w' ⟨rfl,rfl⟩)
 have Z:((((((w.alloc (.cells #[(.slice (some ⟨b,off,none⟩) l.length cap)] 89)).alloc (.cells #[.int .i64 a,.int .i64 p] 36)).alloc (.cells #[.int .i64 (-1)] 3)).alloc (.cells #[.bool false] 4)).alloc (.cells #[(.slice (some ⟨b,off,none⟩) l.length cap)] 89)).alloc (.cells #[.int .i64 a,.int .i64 p] 36)).heap[w.heap.size+1]? =some (.cells #[.int .i64 a,.int .i64 p] 36 (0,0)):=(by have h:=World.alloc_heap_new (w.alloc (.cells #[(.slice (some ⟨b,off,none⟩) l.length cap)] 89)) (.cells #[.int .i64 a,.int .i64 p] 36);simp only[World.size_alloc]at h;exact(Below.heap_alloc _ _ _ (by simp <;> omega)).trans ((Below.heap_alloc _ _ _ (by simp <;> omega)).trans ((Below.heap_alloc _ _ _ (by simp <;> omega)).trans ((Below.heap_alloc _ _ _ (by simp <;> omega)).trans (h)))))
 have V:((((((w.alloc (.cells #[(.slice (some ⟨b,off,none⟩) l.length cap)] 89)).alloc (.cells #[.int .i64 a,.int .i64 p] 36)).alloc (.cells #[.int .i64 (-1)] 3)).alloc (.cells #[.bool false] 4)).alloc (.cells #[(.slice (some ⟨b,off,none⟩) l.length cap)] 89)).alloc (.cells #[.int .i64 a,.int .i64 p] 36)).heap[w.heap.size+1+1]? =some (.cells #[.int .i64 (-1)] 3 (0,0)):=(by have h:=World.alloc_heap_new ((w.alloc (.cells #[(.slice (some ⟨b,off,none⟩) l.length cap)] 89)).alloc (.cells #[.int .i64 a,.int .i64 p] 36)) (.cells #[.int .i64 (-1)] 3);simp only[World.size_alloc]at h;exact(Below.heap_alloc _ _ _ (by simp <;> omega)).trans ((Below.heap_alloc _ _ _ (by simp <;> omega)).trans ((Below.heap_alloc _ _ _ (by simp <;> omega)).trans (h))))
 have aa:((((((w.alloc (.cells #[(.slice (some ⟨b,off,none⟩) l.length cap)] 89)).alloc (.cells #[.int .i64 a,.int .i64 p] 36)).alloc (.cells #[.int .i64 (-1)] 3)).alloc (.cells #[.bool false] 4)).alloc (.cells #[(.slice (some ⟨b,off,none⟩) l.length cap)] 89)).alloc (.cells #[.int .i64 a,.int .i64 p] 36)).heap[w.heap.size+1+1+1]? =some (.cells #[.bool false] 4 (0,0)):=(by have h:=World.alloc_heap_new (((w.alloc (.cells #[(.slice (some ⟨b,off,none⟩) l.length cap)] 89)).alloc (.cells #[.int .i64 a,.int .i64 p] 36)).alloc (.cells #[.int .i64 (-1)] 3)) (.cells #[.bool false] 4);simp only[World.size_alloc]at h;exact(Below.heap_alloc _ _ _ (by simp <;> omega)).trans ((Below.heap_alloc _ _ _ (by simp <;> omega)).trans (h)))
 have ab:((((((w.alloc (.cells #[(.slice (some ⟨b,off,none⟩) l.length cap)] 89)).alloc (.cells #[.int .i64 a,.int .i64 p] 36)).alloc (.cells #[.int .i64 (-1)] 3)).alloc (.cells #[.bool false] 4)).alloc (.cells #[(.slice (some ⟨b,off,none⟩) l.length cap)] 89)).alloc (.cells #[.int .i64 a,.int .i64 p] 36)).heap[w.heap.size+1+1+1+1]? =some (.cells #[(.slice (some ⟨b,off,none⟩) l.length cap)] 89 (0,0)):=(by have h:=World.alloc_heap_new ((((w.alloc (.cells #[(.slice (some ⟨b,off,none⟩) l.length cap)] 89)).alloc (.cells #[.int .i64 a,.int .i64 p] 36)).alloc (.cells #[.int .i64 (-1)] 3)).alloc (.cells #[.bool false] 4)) (.cells #[(.slice (some ⟨b,off,none⟩) l.length cap)] 89);simp only[World.size_alloc]at h;exact(Below.heap_alloc _ _ _ (by simp <;> omega)).trans (h))
 have N:((((((w.alloc (.cells #[(.slice (some ⟨b,off,none⟩) l.length cap)] 89)).alloc (.cells #[.int .i64 a,.int .i64 p] 36)).alloc (.cells #[.int .i64 (-1)] 3)).alloc (.cells #[.bool false] 4)).alloc (.cells #[(.slice (some ⟨b,off,none⟩) l.length cap)] 89)).alloc (.cells #[.int .i64 a,.int .i64 p] 36)).heap[w.heap.size+1+1+1+1+1]? =some (.cells #[.int .i64 a,.int .i64 p] 36 (0,0)):=(by have h:=World.alloc_heap_new (((((w.alloc (.cells #[(.slice (some ⟨b,off,none⟩) l.length cap)] 89)).alloc (.cells #[.int .i64 a,.int .i64 p] 36)).alloc (.cells #[.int .i64 (-1)] 3)).alloc (.cells #[.bool false] 4)).alloc (.cells #[(.slice (some ⟨b,off,none⟩) l.length cap)] 89)) (.cells #[.int .i64 a,.int .i64 p] 36);simp only[World.size_alloc]at h;exact h)
 have M:Below w.heap.size w ((((((w.alloc (.cells #[(.slice (some ⟨b,off,none⟩) l.length cap)] 89)).alloc (.cells #[.int .i64 a,.int .i64 p] 36)).alloc (.cells #[.int .i64 (-1)] 3)).alloc (.cells #[.bool false] 4)).alloc (.cells #[(.slice (some ⟨b,off,none⟩) l.length cap)] 89)).alloc (.cells #[.int .i64 a,.int .i64 p] 36)):=((((((Below.refl _ w).alloc (Kaq _) _).alloc (by simp) _).alloc (by simp <;> omega) _).alloc (by simp <;> omega) _).alloc (by simp <;> omega) _).alloc (by simp <;> omega) _
 have ah:((((((w.alloc (.cells #[(.slice (some ⟨b,off,none⟩) l.length cap)] 89)).alloc (.cells #[.int .i64 a,.int .i64 p] 36)).alloc (.cells #[.int .i64 (-1)] 3)).alloc (.cells #[.bool false] 4)).alloc (.cells #[(.slice (some ⟨b,off,none⟩) l.length cap)] 89)).alloc (.cells #[.int .i64 a,.int .i64 p] 36)).heap.size=w.heap.size+6:=by simp
 obtain⟨W0,O⟩:∃W0,((((((w.alloc (.cells #[(.slice (some ⟨b,off,none⟩) l.length cap)] 89)).alloc (.cells #[.int .i64 a,.int .i64 p] 36)).alloc (.cells #[.int .i64 (-1)] 3)).alloc (.cells #[.bool false] 4)).alloc (.cells #[(.slice (some ⟨b,off,none⟩) l.length cap)] 89)).alloc (.cells #[.int .i64 a,.int .i64 p] 36))=W0:=⟨_,rfl⟩;rw[O]at Z V aa ab N M ah
 (try rw[O])
 clear O
 skip
 refine wpIn_rangeFunc_ownH rfl (by decide) (gf:=187) (lb:=#[.pointer (some ⟨w.heap.size+1+1+1+1,0,none⟩),.pointer (some ⟨w.heap.size+1+1+1+1+1,0,none⟩)]) rfl trivial (enters_of Tryz.func187 (by kernel_rfl) rfl)
  (QdN (4 - 1) (by decide) (w.heap.size+1+1+1+1) (w.heap.size+1+1+1+1+1) w.heap.size b off cap l a p hn hl hf W0 (by omega) (by omega) hb (by omega) (Q0k ab 0 _ rfl) (Q0k N 0 _ rfl) (Q0k N 1 _ rfl) (fun i hi j hj=>(M.cell (p:=⟨b,off+i * Q0g.k+j,none⟩) hb).trans (hc i hi j hj)))
  (fun h k=>KpW.trans h k)
  (fun W l ob ae ac ad af ag=>⟨belowK_b (w:=W0) (by omega) W l ob ae ac ad af ag,(grownBy_putObj' W l ae).block _ (by have:=(KEq ad);omega) (by simp;omega)⟩)
  KBq (fun _=>rfl)
  (fun m W=>(Q7v a p m=none/\Boxed W (w.heap.size+1+1) 3 (.int .i64 (-1))/\Boxed W (w.heap.size+1+1+1) 4 (.bool false)/\W.heap[w.heap.size+1]? =some (.cells #[.int .i64 a,.int .i64 p] 36 (0,0))/\w.heap.size+6<=W.heap.size)/\Below w.heap.size w W)
  (fun c m W=>(c=.exit 0/\∃E:Int × Bool,Q7v a p m=some E/\Boxed W (w.heap.size+1+1) 3 (.int .i64 E.1)/\Boxed W (w.heap.size+1+1+1) 4 (.bool E.2))/\Below w.heap.size w W)
  (OwnFrom.and (Own.from (fun q A B row hs I J=>by obtain⟨C,f,g,z,L⟩:=hs;exact⟨C,Q2C f I J,Q2C g I J,Q2C z I J,Kdq L I.size⟩) _) (ownFrom_below (Kaq _) (by omega)))
  (fun c=>OwnFrom.and (Own.from (fun q A B row hs I J=>by obtain⟨e0,E,C,f,g⟩:=hs;exact⟨e0,E,C,Q2C f I J,Q2C g I J⟩) _) (ownFrom_below (Kaq _) (by omega)))
  ⟨⟨rfl,V,aa,Z,by omega⟩,M⟩
  (fun x a' W=> ∃Bx,w.heap.size+1+1+1+1+1 < Bx/\W.heap[Bx]? =some (.cells #[.bool x.2.u,.int .i64 x.2.a,.int .i64 x.2.p,.int .i64 x.2.v,.int .i64 x.2.t] 165 (0,0))/\a'={ tmps:=#[tab (.slice (some ⟨b,off,none⟩) l.length cap),Qg5 a p,.pointer (some ⟨w.heap.size,0,none⟩),.pointer (some ⟨w.heap.size+1,0,none⟩),.int .i64 0,.bool false,.pointer (some ⟨w.heap.size+1+1,0,none⟩),.pointer (some ⟨w.heap.size+1+1+1,0,none⟩),.int .i64 (x.1:Nat),.pointer (some ⟨Bx,0,none⟩),.agg #[(.slice (some ⟨b,off,none⟩) l.length cap)],.agg #[.int .i64 a,.int .i64 p],.func (.func 187) #[] #[.pointer (some ⟨w.heap.size+1+1+1+1,0,none⟩),.pointer (some ⟨w.heap.size+1+1+1+1+1,0,none⟩)],.int .i64 (x.1:Nat),slot x.2,undef,undef,undef,undef,undef,undef,undef,undef,undef,undef,undef,undef,undef],defers:=[] })
  (fun x a' _ X Y row hs I J=>by obtain⟨Bx,C,f,g⟩:=hs;exact⟨Bx,C,Q2C f I (fun r e=>(J r e).2),g⟩)
  ?assign ?body ?done ?stop
 case assign=>
  rintro y m x W K ⟨⟨C,f,g,z,L⟩,s⟩ hK
  gi_wp2
  refine hK _ _ ((KeepsOthers.alloc _ _).from _) ⟨(Below.refl _ W).alloc s.size _,Below.heap_alloc W _ _ (by omega)⟩ ⟨⟨C,f.alloc _,g.alloc _,(Below.heap_alloc W _ _ (by omega)).trans z,Kdq L (by simp)⟩,s.alloc s.size _⟩ ⟨W.heap.size,by omega,World.alloc_heap_new W _,rfl⟩
 case body=>
  rintro y m ⟨G,xs⟩ a' W ac ⟨r,J⟩ ⟨⟨C,f,g,z,L⟩,s⟩ ⟨Bx,ap,hX,rfl⟩ aq;obtain⟨su,P,U,sv,st⟩:=xs;dsimp only at hX;have al:=Q0k hX 0 _ rfl;have am:=Q0k hX 1 _ rfl;have an:=Q0k hX 2 _ rfl;have ai:=Q0k z 0 _ rfl;have aj:=Q0k z 1 _ rfl;have cE:=f.cell;have fE:=f.frozen;have cO:=g.cell;have fO:=g.frozen;have T:=Q02 (Q7H a p m (G,⟨su,P,U,sv,st⟩) C);have H:=Q02 (And.intro f (And.intro g (And.intro z s)));clear f g z s
  cases su with
  |false=>
   have R:=Q02 (show Q7v a p (m++[(G,⟨false,P,U,sv,st⟩)])=some ((G:Int),false)from T.out.trans (by simp[Q3i]));clear T
   gi_wp2
   obtain⟨f,g,z,s⟩:=H.out;exact⟨(KeepsOthers.setCell _ _ _).from _,⟨rfl,((G:Int),false),R.out,f.set _,(Below.heap_setCell _ _ _ _ (by simp)).trans g⟩,s.setCell (p:=⟨w.heap.size+1+1,0,none⟩) (by simp;omega) _⟩
  |true=>
   by_cases hq:P=a/\U=p
   ·have R:=Q02 (show Q7v a p (m++[(G,⟨true,P,U,sv,st⟩)])=some ((G:Int),true)from T.out.trans (by simp[Q3i,hq]))
    obtain⟨rfl,rfl⟩:=hq;clear T;have ak:(W.setCell ⟨w.heap.size+1+1,0,none⟩ (.int .i64 (G:Nat))).cell? ⟨w.heap.size+1+1+1,0,none⟩=some (.bool false):=((Q3g (Below.heap_setCell _ _ _ _ (by simp))).trans cO);have ao:(W.setCell ⟨w.heap.size+1+1,0,none⟩ (.int .i64 (G:Nat))).frozen? ⟨w.heap.size+1+1+1,0,none⟩=false:=(Boxed.frozen (show Boxed _ _ 4 (.bool false)from(Below.heap_setCell _ _ _ _ (by simp)).trans H.out.2.1))
    gi_wp2
    obtain⟨f,g,z,s⟩:=H.out;refine⟨((KeepsOthers.setCell _ _ _).from _).trans ((KeepsOthers.setCell _ _ _).from _),⟨rfl,((G:Int),true),R.out,(Below.heap_setCell _ _ _ _ (by simp)).trans (f.set _), ?_⟩,(s.setCell (p:=⟨w.heap.size+1+1,0,none⟩) (by simp;omega) _).setCell (p:=⟨w.heap.size+1+1+1,0,none⟩) (by simp;omega) _⟩;have b3:Boxed (W.setCell ⟨w.heap.size+1+1,0,none⟩ (.int .i64 (G:Nat))) (w.heap.size+1+1+1) 4 (.bool false):=(Below.heap_setCell W ⟨w.heap.size+1+1,0,none⟩ _ (w.heap.size+1+1+1) (by simp)).trans g;exact b3.set _
   ·have R:=Q02 (show Q7v a p (m++[(G,⟨true,P,U,sv,st⟩)])=none from T.out.trans (by simp[Q3i];exact fun h1 h2=>hq ⟨h1,h2⟩))
    clear T
    by_cases h1:P=a
    ·subst h1
     have h2:(U==p)=false:=beq_eq_false_iff_ne.2 (fun e=>hq ⟨rfl,e⟩);clear hq
     gi_wp2
     obtain⟨f,g,z,s⟩:=H.out;exact⟨Q6q KBq,⟨KBq,rfl⟩,⟨R.out,f,g,z,L⟩,s⟩
    ·have h2:(P==a)=false:=beq_eq_false_iff_ne.2 h1
     clear hq
     gi_wp2
     obtain⟨f,g,z,s⟩:=H.out;exact⟨Q6q KBq,⟨KBq,rfl⟩,⟨R.out,f,g,z,L⟩,s⟩
 case done=>
  rintro D ys W hD rfl ⟨⟨C,f,g,z,L⟩,s⟩ hK;have HE:=Q02 (Qfp hn C);have cE:=f.cell;have cO:=g.cell;have H:=Q02 (And.intro f (And.intro g s));clear f g s
  gi_wp2
  refine wpIn_wide.2 ?_
  go_region
  gi_wp2
  rw[Exit.noGoto_ret];have F:W.drew.heap[D]? =some (.deferred (some [])):=hK;refine⟨by simp,.inl ⟨_,_,rfl,run_takeDeferred F, ?_⟩⟩;refine⟨.tuple #[.int .i64 (-1),.bool false],by simp[results,Tryz.f151,go_sem],by rw[HE.out],(KHq H.out.2.2).trans (belowK_b (w:=w) (Kaq _) W.drew D _ _ (by omega) F rfl rfl)⟩
 case stop=>
  rintro D c m W hD ⟨k,hk,rfl⟩ ⟨⟨rfl,E,C,f,g⟩,s⟩ hK;have HE:=Q02 (Q74 hn hk C);have cE:=f.cell;have cO:=g.cell;have H:=Q02 (And.intro f (And.intro g s));clear f g s
  gi_wp2
  refine wpIn_wide.2 ?_
  go_region
  gi_wp2
  rw[Exit.noGoto_ret];have F:W.drew.heap[D]? =some (.deferred (some [])):=hK;refine⟨by simp,.inl ⟨_,_,rfl,run_takeDeferred F, ?_⟩⟩;refine⟨.tuple #[.int .i64 E.1,.bool E.2],by simp[results,Tryz.f151,go_sem],by rw[HE.out],(KHq H.out.2.2).trans (belowK_b (w:=w) (Kaq _) W.drew D _ _ (by omega) F rfl rfl)⟩
end Go.Proofs.YtpneolgdghbinaaGreat
namespace Go.Proofs.YtpneolgdghbinaaGreat
open Go.ChangeShapes Go.WideShapes Go.ChangeAt Go.RowKit Go.Joins
set_option linter.unusedVariables false
set_option linter.unusedSimpArgs false
set_option maxRecDepth 100000
set_option maxHeartbeats 40000000
def Qbo (l:List Sl):Bool:=(List.range l.length).all (Q9N l)
theorem Q7M {l:List Sl}:Qbo l=true↔∀i,i < l.length->Q9N l i=true:=by simp[Qbo]
theorem Qh2 {l:List Sl} {i:Nat} (hi:i < l.length) (h:Q9N l i=false):false=Qbo l:=by
 cases hb:Qbo l with
 |false=>rfl
 |true=>rw[Q7M.1 hb i hi]at h;cases h
theorem Q9g {l:List Sl} (a:1<=l.length) (h2:l.length<=16) (h:Q7Z l l.length):Qbo l=Q0e l:=by
 rw[Bool.eq_iff_iff,Q7M,Q0d]
 constructor
 ·intro c
  exact⟨a,h2,fun i hi=>by unfold Q3M;rw[h i hi,c i hi];rfl⟩
 ·intro⟨_,_,b⟩ i hi
  have:=b i hi;unfold Q3M at this;rw[h i hi]at this
  simpa using this
theorem QdZ {l:List Sl} {i:Nat} (h:(l.getD i sl0).u=false):Q9N l i=true:=by unfold Q9N;rw[h];rfl
theorem QgQ {l:List Sl} {i:Nat} (h:Q1n l (l.getD i sl0).a (l.getD i sl0).p=((i:Int),true)):Q9N l i=true:=by unfold Q9N;rw[h];cases(l.getD i sl0).u <;> simp
theorem Qg9 {l:List Sl} {i:Nat} (hu:(l.getD i sl0).u=true) (h:Q1n l (l.getD i sl0).a (l.getD i sl0).p≠((i:Int),true)):Q9N l i=false:=by unfold Q9N;rw[hu,beq_eq_false_iff_ne.2 h];rfl
theorem QhR {l:List Sl} (b:0 < l.length) {a p:Int} {k:Nat} (c:(l.getD k sl0).u=true) (h:(Q1n l a p).1=(k:Int)):Q1n l a p=((k:Int),true):=by
 rcases Q2g l b a p with e|⟨q,d,⟨e,f⟩|⟨e,_⟩⟩
 ·rw[e]at h;exact absurd (show(-1:Int)=k from h) (by omega)
 ·rw[e]at h;simp at h;have:q=k:=by omega
  subst this;rw[c]at f;cases f
 ·rw[e]at h ⊢;simp at h;have:q=k:=by omega
  subst this;rfl
abbrev Q1B:TypeId:=165
theorem Q42 (b off cap:Nat) (l:List Sl) (w:World) (R:0 < l.length) (hl:l.length<=1048576) (hs:Q7Z l l.length) (y:b < w.heap.size)
  (P:∀i,i < l.length->∀j,j < Q0g.k->w.cell? ⟨b,off+i * Q0g.k+j,none⟩=(Q0g.cs (l.getD i Q0g.d))[j]?):
  Calls Tryz.prog 126 #[tab (.slice (some ⟨b,off,none⟩) l.length cap)] w fun e w'=>e=.returned (.bool (Qbo l))/\Below w.heap.size w w':=by
 have M:=Q02 P;have O:Hid (Below w.heap.size w (w.alloc (.cells #[.slice (some ⟨b,off,none⟩) l.length cap] 89))):=KBq.alloc (Kaq _) _
 have J:Hid ((w.alloc (.cells #[.slice (some ⟨b,off,none⟩) l.length cap] 89)).cell? ⟨w.heap.size,0,none⟩=some (.slice (some ⟨b,off,none⟩) l.length cap)):=by simp[Q02,go_sem,Hid]
 have L:w.heap.size < (w.alloc (.cells #[.slice (some ⟨b,off,none⟩) l.length cap] 89)).heap.size:=by simp
 clear P;go_enter Tryz.func126,Tryz.ntmps126;go_wp2;generalize w.alloc (.cells #[.slice (some ⟨b,off,none⟩) l.length cap] 89)=w0 at *
 go_loopw [10] (fun i wr=> ∃k:Nat,k<=l.length/\i=.int .i64 k/\Hid (∀j,j < k->Q9N l j=true)/\Hid (Below w0.heap.size w0 wr))
  (fun i _=>l.length - (intOf i).toNat)
 case atStart=>exact⟨0,Kcq _,rfl,fun i hi=>absurd hi (KMq _),KBq⟩
 case round=>
  obtain⟨k,hk,rfl,B,g⟩:=hrel;have X:=bKq0v0v0 g.out J.out L;have c:=Q02 (O.out.trans (g.out.mono O.out.size));have ab:w0.heap.size<=wr.heap.size:=g.out.size
  by_cases hlt:k < l.length
  ·obtain⟨s,A⟩:∃s,l.getD k sl0=s:=⟨_,rfl⟩
   have f:=RdL.slot (C:=w.heap.size) M.out k hlt;have D:=Q02 (hs k hlt);rw[A]at f D;have Y:=(c.out.cell (p:=⟨b,off+k * 5,none⟩) y).trans f.1;have Z:=(c.out.cell (p:=⟨b,off+k * 5+1,none⟩) y).trans f.2.1;have e2:=(c.out.cell (p:=⟨b,off+k * 5+2,none⟩) y).trans f.2.2.1;have e3:=(c.out.cell (p:=⟨b,off+k * 5+3,none⟩) y).trans f.2.2.2.1;have e4:=(c.out.cell (p:=⟨b,off+k * 5+4,none⟩) y).trans f.2.2.2.2
   have aa:(k:Int) < (l.length:Int):=by omega
   have F:=Q02 A;clear f A;obtain⟨su,t,u,T,st⟩:=s;simp only at Y Z e2 e3 e4
   cases su with
   |false=>
    have I:Hid (∀j,j < k+1->Q9N l j=true):=fun j H=>by
     rcases Nat.lt_succ_iff_lt_or_eq.1 H with h|h
     ·exact B.out j h
     ·rw[h];exact QdZ (by rw[F.out])
    clear B;go_wp2;go_roundw
    case rel=>exact⟨k+1,hlt,by go_num,I,show Below _ _ _ by have hB:=g.out;(repeat (first|with_reducible (first|exact hB|exact KBq|refine KHq ?_|refine below_drewN ?_ _|refine KOq ?_ ?_ _|refine KNq ?_ ?_ _)|(focus (simp;first|done|omega))|omega))⟩
    case measure=>simp[intOf];omega
   |true=>
    obtain⟨G,r⟩:∃W,wr.alloc (.cells #[.bool true,.int .i64 t,.int .i64 u,.int .i64 T,.int .i64 st] Q1B)=W:=⟨_,rfl⟩
    have z:Hid (Below wr.heap.size wr G):=by rw[<-r];exact KBq.alloc (Kaq _) _
    have c0:G.cell? ⟨wr.heap.size,0,none⟩=some (.bool true):=by rw[<-r];simp[go_sem]
    have c1:G.cell? ⟨wr.heap.size,1,none⟩=some (.int .i64 t):=by rw[<-r];simp[go_sem]
    have c2:G.cell? ⟨wr.heap.size,2,none⟩=some (.int .i64 u):=by rw[<-r];simp[go_sem]
    have c5:=bKq0v0v0 z.out X (show w.heap.size < wr.heap.size by omega);have n:=Q02 (c.out.trans (z.out.mono c.out.size));have N:=Q02 (g.out.trans (z.out.mono g.out.size));have x:=Q6r b off cap l t u G R hl ((Q4L (s:=⟨true,t,u,T,st⟩) rfl).1 D.out).1 (Kbq y n.out.size) (fun i hi j H=>(n.out.cell (p:=⟨b,off+i * Q0g.k+j,none⟩) y).trans (M.out i hi j H))
    by_cases hE:(Q1n l t u).1=(k:Int)
    ·have q:=QhR R (a:=t) (p:=u) (k:=k) (by rw[F.out]) hE
     have I:Hid (∀j,j < k+1->Q9N l j=true):=fun j H=>by
      rcases Nat.lt_succ_iff_lt_or_eq.1 H with h|h
      ·exact B.out j h
      ·rw[h];exact QgQ (by rw[F.out];exact q)
     rw[q]at x;clear B hE q;go_wp2_with (go_at_call 151;refine x.mono ?_;rintro e w2 ⟨rfl,m⟩;have v:=Q02 (N.out.trans (m.mono N.out.size));clear m);go_roundw
     case rel=>exact⟨k+1,hlt,by go_num,I,v⟩
     case measure=>simp[intOf];omega
    ·have U:=Q02 (Qh2 hlt (Qg9 (by rw[F.out]) (by rw[F.out];exact fun h=>hE (by rw[h]))))
     have q:((Q1n l t u).1==(k:Int))=false:=beq_eq_false_iff_ne.2 hE;generalize Q1n l t u=E at *;clear B;go_wp2_with (go_at_call 151;refine x.mono ?_;rintro e w2 ⟨rfl,m⟩;have v:=Q02 (n.out.trans (m.mono n.out.size));clear m);go_ret;exact⟨Q08 U.out,v.out⟩
  ·have e:k=l.length:=by omega
   subst e;have V:=Q02 (show true=Qbo l from(Q7M.2 B.out).symm);go_wp2;go_ret;exact⟨Q08 V.out,c.out⟩
theorem QgZ:(Tryz.prog.info? Q1B).map (fun i=>(i.zero,i.size,i.bytes))=some (some (.agg #[.bool false,.int .i64 0,.int .i64 0,.int .i64 0,.int .i64 0]),5,40):=by kernel_rfl
theorem Q2r (n:Nat) (w:World) (y:n<=1048576):
  Calls Tryz.prog 114 #[.int .i64 n] w fun e q=> ∃g,e=.returned (tab (.slice (some ⟨g,0,none⟩) n n))/\ownL Q0g Q1B q w.heap.size (.slice (some ⟨g,0,none⟩) n n) (List.replicate n sl0)/\Below w.heap.size w q:=by
 obtain⟨u,hi,i,j,l⟩:=info_parts QgZ;have m:Below w.heap.size w w:=KBq;go_enter Tryz.func114,Tryz.ntmps114;go_wp2_with (at_make;refine wpList_make_full _ rfl _ _ 87 rfl (w.heap.size+1) Q1B u (slot sl0) 5 Tryz.underlying87 hi i j _ _ _ _ n rfl rfl rfl rfl ?b2 ?b3 ?b4 ?_)
 case b2=>rw[l];omega
 case b3=>unfold maxLen;omega
 case b4=>simp
 intro c b a;have f:c.heap[w.heap.size]? =some (.cells #[.slice none 0 0] 89 (0,0)):=(a.block w.heap.size (by simp) (by simp)).trans (World.alloc_heap_new w _);have t:=Q0k f 0 _ rfl
 have x:c.frozen? ⟨w.heap.size,0,none⟩=false:=by simp[World.frozen?,f]
 have z:w.heap.size < c.heap.size:=(KEq f);have r:Hid (Below w.heap.size w c):=(m.alloc (Kaq _) _).grown a (by simp) (fun k h=>by cases h)
 have s:Hid (ownL Q0g Q1B c (w.heap.size+1) (.slice (some ⟨w.heap.size+1,0,none⟩) n n) (List.replicate n sl0)):=by
  unfold Hid ownL;rw[List.length_replicate]
  show c.ownsRow _ _ _ _ n ((List.replicate n Q0g.d).flatMap Q0g.cs)
  rw[<-Q3B Q0g (slot sl0) rfl];exact b
 clear b a m f;go_wp2;refine bodyPost_ret (v:=tab (.slice (some ⟨w.heap.size+1,0,none⟩) n n)) (by simp[results,Tryz.results114,go_sem,t]) rfl ⟨_,rfl, ?_, ?_⟩
 ·exact Q04 (ownsRow_setCell_below s.out (by simp) _) (by omega)
 ·exact r.out.setCell (p:=⟨w.heap.size,0,none⟩) (Kaq _) _
theorem Qdd (s:Sl) (w:World):
  Calls Tryz.prog 158 #[slot s] w fun e b=>e=.returned (slot s)/\Below w.heap.size w b:=by
 have a:Below w.heap.size w w:=KBq;go_enter Tryz.func158,Tryz.ntmps158;go_wp2;refine bodyPost_ret (v:=slot s) (by simp[results,Tryz.results158,go_sem]) rfl ⟨rfl, ?_⟩
 (repeat (first|with_reducible (first|exact a|exact KBq|refine KHq ?_|refine below_drewN ?_ _|refine KOq ?_ ?_ _|refine KNq ?_ ?_ _)|(focus (simp;first|done|omega))|omega))
end Go.Proofs.YtpneolgdghbinaaGreat
