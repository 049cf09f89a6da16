/- Several texts in one: SDrC, SDrC2. -/
import Derived.Test.YtljogkoaaidlcaaQHandL29
import Derived.Test.YtljogkoaaidlcaaQHandL31
namespace Go.Proofs.Ytljogkoaaidlcaa
open Go.ChangeShapes Go.WideShapes Go.ChangeAt Go.RowKit Go.Joins
set_option linter.unusedVariables false
set_option linter.unusedSimpArgs false
set_option maxRecDepth 100000
set_option maxHeartbeats 40000000
theorem Q1A (op:Bool) (tl:List (Int × Int)):∀(g:List (Int × Int)),(∀p∈g,(0≤p.1∧p.1 < 4)∧p.2=0)→Q0K op 0 (g++tl)=Q0K op 0 tl
 |[],_=> rfl
 |p::g,h=> by
  have hp:=h p (by simp)
  have ih:=Q1A op tl g (fun q hq=> h q (List.mem_cons_of_mem _ hq))
  rw [List.cons_append,Q0K,hp.2,ih]
  have:Q15 p.1 0=true:=Q2r.2 ⟨hp.1.1,by omega,by omega,by omega⟩
  rw [this]
  simp
theorem Q4i {op:Bool} (hop:op=true) {x y:Int} (hx:0≤x∧x < 4) (hy:0≤y∧y < 4):Q0K op 0 [(x,1),(y,1)]=true:=by
 have h1:Q15 x 1=true:=Q2r.2 ⟨hx.1,by omega,by omega,by omega⟩
 have h2:Q15 y 1=true:=Q2r.2 ⟨hy.1,by omega,by omega,by omega⟩
 simp [Q0K,h1,h2,hop]
theorem Q6O {a b f s:Int} {n:Nat} (h:Q73 a b f s) (hn:n≤4):Q0l a b f s n=true:=by
 obtain ⟨h1,h2,h3,h4,h5⟩:=h
 refine Q0P.2 ⟨Q1u.2 (by omega), ?_, ?_,h4,by omega,by omega, ?_⟩
 all_goals (simp at h3;rcases h3 with h|h|h|h|h <;> subst h <;> decide+kernel)
structure D2 (k:Nat) (w0 W:World) (v:Value) (L:List Int) (vg:Value) (g:List (Int × Int)):Prop where
 row:ownB W w0.heap.size v L
 seg:ownL Q5G 41 W w0.heap.size vg g
 cur:isCur k W
 gr:w0.grownBy W (some k)
theorem Q7R {w:World} {base k n size:Nat} {e:TypeId} {v:Value} {xs:List Value} (h:w.ownsRow base e size v n xs) (hk:k < base):v.ownBlock=none∨v.ownBlock≠some k:=by
 cases hob:v.ownBlock with
 |none=> exact .inl rfl
 |some j=> right;have:=(h.lt j hob).1;intro e;simp at e;omega
theorem Q4I {W:World} {P:Nat} {X:Obj} (h:W.heap[P]? =some X):P < W.heap.size:=(Array.getElem?_eq_some_iff.1 h).1
theorem Q0H {k P:Nat} {W W':World} {X:Obj} (h:W.heap[P]? =some X) (hg:W.grownBy W' (some k)) (hne:P≠k):W'.heap[P]? =some X:=(hg.block P (Q4I h) (by simp [hne])).trans h
theorem Q1f {P:Nat} {W:World} {X:Obj} (h:W.heap[P]? =some X) (O:Obj):(W.alloc O).heap[P]? =some X:=(Below.heap_alloc W O P (Q4I h)).trans h
theorem Q78 {W:World} {B:Nat} {c:Array Value} {t e:TypeId} {z:Nat × Nat} (h:W.heap[B]? =some (.cells c t z)) (hte:t≠e) {base size k:Nat} {v:Value} {xs:List Value} (hr:W.ownsRow base e size v k xs):some B≠v.ownBlock:=by
 rcases hr.2 with ⟨rfl,_⟩|⟨g,cap,cur,rfl,_,hgb,_⟩
 ·simp [Value.ownBlock]
 ·intro e'
  obtain rfl:B=g:=by simpa [Value.ownBlock] using e'
  rw [hgb] at h
  injection h with h
  injection h with _ h _
  exact hte h.symm
theorem D2.call {k:Nat} {w0 W W':World} {v vg:Value} {L:List Int} {g:List (Int × Int)} (h:D2 k w0 W v L vg g) (hg:W.grownBy W' (some k)) (hc:isCur k W') (hk:k < w0.heap.size):D2 k w0 W' v L vg g:=
 ⟨World.ownsRow.kept h.row hg (Q7R h.row hk),World.ownsRow.kept h.seg hg (Q7R h.seg hk),hc,Q08 h.gr hg⟩
theorem D2.alloc {k:Nat} {w0 W:World} {v vg:Value} {L:List Int} {g:List (Int × Int)} (h:D2 k w0 W v L vg g) (hk:k < w0.heap.size) (O:Obj):D2 k w0 (W.alloc O) v L vg g:=
 h.call (Q0w W O k) (h.cur.alloc (Kbq hk h.gr.size) O) hk
theorem D2.drew {k:Nat} {w0 W:World} {v vg:Value} {L:List Int} {g:List (Int × Int)} (h:D2 k w0 W v L vg g):D2 k w0 W.drew v L vg g:=
 ⟨h.row,h.seg,h.cur.drew,⟨h.gr.os,h.gr.tape,h.gr.output,h.gr.size,h.gr.block⟩⟩
theorem D2.set {k P:Nat} {w0 W:World} {v vg:Value} {L:List Int} {g:List (Int × Int)} {cs:Array Value} (h:D2 k w0 W v L vg g) (hb:W.heap[P]? =some (.cells cs 34 (0,0))) (hk:k < w0.heap.size) (hP:w0.heap.size≤P) (j:Nat) (u:Value):
  D2 k w0 (W.setCell ⟨P,j,none⟩ u) v L vg g∧(W.setCell ⟨P,j,none⟩ u).heap[P]? =some (.cells (cs.setIfInBounds j u) 34 (0,0)):=by
 have hbl:Below P W (W.setCell ⟨P,j,none⟩ u):=Q06 (Below.refl P W) j u
 refine ⟨⟨Q6E h.row P j u (fun b e h'=> Q78 hb (by decide) h.row (by rw [e,h'])),Q6E h.seg P j u (fun b e h'=> Q78 hb (by decide) h.seg (by rw [e,h'])),h.cur.below (hbl.mono (by omega)),Q0h h.gr hbl hP⟩,Q81 W P j cs _ u hb⟩
theorem D2.app {k P:Nat} {w0 W W2:World} {v vg vg':Value} {L:List Int} {g g':List (Int × Int)} {cs:Array Value} (h:D2 k w0 W v L vg g) (hb:W.heap[P]? =some (.cells cs 34 (0,0))) (hk:k < w0.heap.size) (ho:ownL Q5G 41 W2 w0.heap.size vg' g') (hg:W.grownBy W2 vg.ownBlock):
  D2 k w0 W2 v L vg' g'∧W2.heap[P]? =some (.cells cs 34 (0,0)):=by
 have hbl:Below w0.heap.size W W2:=(Below.refl _ _).grown hg h.gr.size (fun q e=> (h.seg.lt q e).1)
 exact ⟨⟨World.ownsRow.kept h.row hg (Q5Q h.row h.seg (by decide)),ho,h.cur.below (hbl.mono hk),Q0h h.gr hbl (Kaq _)⟩,(hg.block P (Q4I hb) (Q78 hb (by decide) h.seg)).trans hb⟩
theorem Q72 (w:World) (x y:Int):RdL Q5G (w.alloc (.cells #[.int .i64 x,.int .i64 y] 41)).heap.size (w.alloc (.cells #[.int .i64 x,.int .i64 y] 41)) (some ⟨w.heap.size,0,none⟩) [(x,y)]:=by
 refine .inr ⟨w.heap.size,0,rfl,by simp,fun i hi j hj=> ?_⟩
 have hi0:i=0:=by simpa using hi
 have hj2:j=0∨j=1:=by have:j < 2:=hj;omega
 subst hi0
 rcases hj2 with rfl|rfl <;> simp [Q5G]
theorem Q6j (w:World) (x y x' y':Int):RdL Q5G (w.alloc (.cells #[.int .i64 x,.int .i64 y,.int .i64 x',.int .i64 y'] 41)).heap.size (w.alloc (.cells #[.int .i64 x,.int .i64 y,.int .i64 x',.int .i64 y'] 41)) (some ⟨w.heap.size,0,none⟩) [(x,y),(x',y')]:=by
 refine .inr ⟨w.heap.size,0,rfl,by simp,fun i hi j hj=> ?_⟩
 have hi0:i=0∨i=1:=by simp at hi;omega
 have hj2:j=0∨j=1:=by have:j < 2:=hj;omega
 rcases hi0 with rfl|rfl <;> rcases hj2 with rfl|rfl <;> simp [Q5G]
theorem Q5Y {w w':World} {r:Option Nat} (hb:Below w.heap.size w w'):w.grownBy w' r:=⟨hb.os,hb.tape,hb.output,hb.size,fun j hj _=> hb.block j hj⟩
theorem Q4v {a b f s:Int} {L:List Int} {g:List (Int × Int)} {pl st:Int} (hd:Q73 a b f s) (hL:L.length≤4) (hg1:1≤g.length) (hg6:g.length≤7) (hp0:0≤pl) (hp1:pl < (g.length:Int)) (hs0:0≤st) (hs1:st < 30) (hr:Q0K (Q1X f) 0 g=true):(Cm.mk a b f s L g pl st).ok=true:=by
 have h:Q4x a b f s L.length g.length pl st=true:=Q21.2 ⟨Q6O hd hL,by omega,by omega,hp0,hp1,hs0,by omega,trivial⟩
 show Q0q a b f s L.length g pl st=true
 rw [←Q2x h]
 exact hr
def Q7Z (w:World) (k:Nat) (e:Ending) (w':World):Prop:=∃(v:Value) (m:Cm),e=.returned v∧Q8i w' w.heap.size v m∧m.ok=true∧isB m.l∧m.l.length≤4∧m.g.length≤7∧isCur k w'∧w.grownBy w' (some k)
theorem D2.ends {k:Nat} {w w0 W:World} {v vg:Value} {L:List Int} {g:List (Int × Int)} (h:D2 k w0 W v L vg g) (hk:k < w.heap.size) (hs:w.heap.size < w0.heap.size) (hg0:w.grownBy w0 (some k)) {W':World} (hb:Below w.heap.size W W') (hr:ownB W' w0.heap.size v L) (hq:ownL Q5G 41 W' w0.heap.size vg g) (a b f s pl st:Int):
  Q8i W' w.heap.size (crr a b f s v vg pl st) ⟨a,b,f,s,L,g,pl,st⟩∧isCur k W'∧w.grownBy W' (some k):=
 ⟨⟨v,vg,rfl,Q0x hr (Nat.le_of_lt hs),Q0x (Q1S.2 hq) (Nat.le_of_lt hs)⟩,h.cur.below (hb.mono hk),Q0h (Q08 hg0 h.gr) hb (Kaq _)⟩
theorem D2.fin {k:Nat} {w w0 W:World} {v vg:Value} {L:List Int} {g:List (Int × Int)} (h:D2 k w0 W v L vg g) (hk:k < w.heap.size) (hs:w.heap.size < w0.heap.size) (hg0:w.grownBy w0 (some k)) (a b f s pl st:Int) (hok:(Cm.mk a b f s L g pl st).ok=true) (hLb:isB L) (hLn:L.length≤4) (hgn:g.length≤7) {W':World} (hb:Below w.heap.size W W') (hr:ownB W' w0.heap.size v L) (hq:ownL Q5G 41 W' w0.heap.size vg g):
  Q7Z w k (.returned (crr a b f s v vg pl st)) W':=by
 obtain ⟨h1,h2,h3⟩:=h.ends hk hs hg0 hb hr hq a b f s pl st
 exact ⟨_,_,rfl,h1,hok,hLb,hLn,hgn,h2,h3⟩
theorem Q4k (k:Nat) (w:World) (hc:isCur k w) (hk:k < w.heap.size):
  Calls Try.prog 47 #[.pointer (some ⟨k,0,none⟩)] w fun e w'=> Q7Z w k e w':=by
 have hR0:(w.alloc (.cells #[.int .i64 0,.int .i64 0,.int .i64 0,.int .i64 0,.slice none 0 0,.slice none 0 0,.int .i64 0,.int .i64 0] 34)).heap[w.heap.size]? =some (.cells #[.int .i64 0,.int .i64 0,.int .i64 0,.int .i64 0,.slice none 0 0,.slice none 0 0,.int .i64 0,.int .i64 0] 34 (0,0)):=World.alloc_heap_new w _
 have hc0:=hc.alloc hk (.cells #[.int .i64 0,.int .i64 0,.int .i64 0,.int .i64 0,.slice none 0 0,.slice none 0 0,.int .i64 0,.int .i64 0] 34)
 have hg0:=Q0w w (.cells #[.int .i64 0,.int .i64 0,.int .i64 0,.int .i64 0,.slice none 0 0,.slice none 0 0,.int .i64 0,.int .i64 0] 34) k
 go_enter Try.func47,Try.ntmps47
 go_wp2_with fail
 generalize hw0:w.alloc (.cells #[.int .i64 0,.int .i64 0,.int .i64 0,.int .i64 0,.slice none 0 0,.slice none 0 0,.int .i64 0,.int .i64 0] 34)=w0 at *
 have hs0:w.heap.size < w0.heap.size:=by rw [←hw0];simp
 have hk0:k < w0.heap.size:=by omega
 have hkR:w.heap.size≠k:=by omega
 clear hw0
 refine (Q3w k _ hc0 hk0).mono ?_
 rintro e w1 ⟨a,b,f,s,v,L,rfl,hdr,hv,hLb,hLn,hc1,hg1⟩
 have HDR:=Q00 hdr
 clear hdr
 have hs1:w0.heap.size≤w1.heap.size:=hg1.size
 go_wp2_with fail
 refine (Q0g k 30 _ hc1 (by omega) (by omega)).mono ?_
 rintro e w2 ⟨st,rfl,hst0,hst1,hc2,hg2⟩
 have hs2:w1.heap.size≤w2.heap.size:=hg2.size
 have d2:D2 k w0 w2 v L (.slice none 0 0) []:=⟨Q1d hv hg2 hk0,World.ownsRow_nil _ _ _ _,hc2,Q08 hg1 hg2⟩
 obtain ⟨ov,cv,hve,_⟩:=hv.open
 subst hve
 have b3:(w2.alloc (.cells #[.int .i64 a,.int .i64 b,.int .i64 f,.int .i64 s,.slice ov L.length cv,.slice none 0 0,.int .i64 0,.int .i64 st] 34)).heap[w2.heap.size]? =some (.cells #[.int .i64 a,.int .i64 b,.int .i64 f,.int .i64 s,.slice ov L.length cv,.slice none 0 0,.int .i64 0,.int .i64 st] 34 (0,0)):=World.alloc_heap_new w2 _
 have d3:=d2.alloc hk0 (.cells #[.int .i64 a,.int .i64 b,.int .i64 f,.int .i64 s,.slice ov L.length cv,.slice none 0 0,.int .i64 0,.int .i64 st] 34)
 clear hv hc hc0 hc1 hc2 hg1 hg2 d2
 go_wp2_with fail
 generalize hw3:w2.alloc (.cells #[.int .i64 a,.int .i64 b,.int .i64 f,.int .i64 s,.slice ov L.length cv,.slice none 0 0,.int .i64 0,.int .i64 st] 34)=w3 at *
 have hs3:w2.heap.size < w3.heap.size:=by rw [←hw3];simp
 clear hw3
 obtain ⟨P,hPe⟩:∃P,w2.heap.size=P:=⟨_,rfl⟩
 have hP0:w0.heap.size≤P:=by omega
 have hPk:P≠k:=by omega
 rw [hPe] at b3 hs3 ⊢
 clear hPe hs2 hs1
 refine (Q0g k 4 _ d3.cur (by omega) (by omega)).mono ?_
 rintro e w4 ⟨n0,rfl,hn0,hn1,hc4,hg4⟩
 obtain ⟨n,rfl⟩:=Int.eq_ofNat_of_zero_le hn0
 have D4:=Q00 (d3.call hg4 hc4 hk0)
 have B4:=Q00 (Q0H b3 hg4 hPk)
 have hn4:n < 4:=by omega
 clear d3 b3 hg4 hc4 hs3 hn0 hn1
 go_wp2
 go_loopw [5] (fun i wr=> ∃(j:Nat) (vg:Value) (g:List (Int × Int)),j≤n+1∧i=.int .i64 j∧g.length=j∧(∀p∈g,(0≤p.1∧p.1 < 4)∧p.2=0)∧D2 k w0 wr (.slice ov L.length cv) L vg g∧wr.heap[P]? =some (.cells #[.int .i64 a,.int .i64 b,.int .i64 f,.int .i64 s,.slice ov L.length cv,vg,.int .i64 0,.int .i64 st] 34 (0,0)))
  (fun i _=> n+1 - (intOf i).toNat)
 case atStart=> exact ⟨0,_,[],by omega,rfl,rfl,fun p hp=> (by cases hp),D4.out,B4.out⟩
 case round=>
  obtain ⟨j,vg,g,hj,rfl,hgj,hg,d,bx⟩:=hrel
  have HJ:=Q00 hgj
  have HG:=Q00 hg
  have hgl:g.length≤5:=by omega
  clear hgj hg D4 B4
  obtain ⟨og,cg,hge,_⟩:=(Q1S.2 d.seg).open
  subst hge
  have hsr:w0.heap.size≤wr.heap.size:=d.gr.size
  by_cases hlt:j < n+1
  ·have z1:(j:Int) < 1+(n:Int):=by omega
   have c5:wr.cell? ⟨P,5,none⟩=some (.slice og g.length cg):=Q01 bx 5 _ rfl
   go_wp2
   go_region_law (first|(go_simp;go_at_call 45;refine (Q0g k 4 _ d.drew.cur (by omega) (by omega)).mono ?_;rintro e w7 ⟨x,rfl,hx0,hx1,hc7,hg7⟩;have d7:=d.drew.call hg7 hc7 hk0;have b7:=Q0H (W:=wr.drew) bx hg7 hPk;have c7:w7.cell? ⟨P,5,none⟩=some (.slice og g.length cg):=Q01 b7 5 _ rfl;have c7a:∀O,(w7.alloc O).cell? ⟨P,5,none⟩=some (.slice og g.length cg):=(fun O=> Q01 (Q1f b7 O) 5 _ rfl);dsimp only)|(refine Q16 Q8x rfl (.tmp 20) (.tmp 24) rfl w0.heap.size (.slice og g.length cg) g rfl (d7.alloc hk0 _).seg (some ⟨w7.heap.size,0,none⟩) 1 _ [(x,0)] 1 rfl rfl (fun h=> by cases h) (Q72 w7 x 0) (by simp;omega) (d7.alloc hk0 _).gr.size ?_;intro v8 w8 hv8 hg8 _;obtain ⟨o8,k8,e8,_⟩:=(Q1S.2 hv8).open;obtain ⟨n8,hn8⟩:∃n,(g++[((x:Int),(0:Int))]).length=n:=⟨_,rfl⟩;rw [hn8] at e8;rw [e8] at hv8 ⊢;clear hn8;obtain ⟨d8,b8⟩:=(d7.alloc hk0 _).app (Q1f b7 _) hk0 hv8 hg8;have c8:w8.cell? ⟨P,5,none⟩=some (.slice og g.length cg):=Q01 b8 5 _ rfl;have f8:w8.frozen? ⟨P,5,none⟩=false:=Q03 b8 5))
   all_goals (
    have R:=Q00 (d8.set b8 hk0 hP0 5 (.slice o8 n8 k8))
    have HG2:Hid (∀p∈g++[(x,0)],(0≤p.1∧p.1 < 4)∧p.2=0):=by
     intro p hp
     rcases List.mem_append.1 hp with h|h
     ·exact HG.out p h
     ·have:p=(x,0):=by simpa using h
      subst this
      exact ⟨⟨hx0,hx1⟩,rfl⟩
    have HL2:Hid ((g++[(x,0)]).length=j+1):=by unfold Hid;rw [List.length_append,HJ.out];rfl
    clear hv8 hg8 d8 b8 d7 b7 c7 c7a c5 hc7 hg7 d bx
    generalize g++[(x,0)]=g2 at *
    go_wp2
    go_roundw
    case rel=> exact ⟨j+1,_,g2,by omega,by go_num,HL2.out,HG2.out,R.out.1,R.out.2⟩
    case measure=> simp [intOf];omega)
  ·have z1:¬((j:Int) < 1+(n:Int)):=by omega
   have hg1:1≤g.length:=by have:=HJ.out;omega
   have x0:wr.cell? ⟨P,0,none⟩=some (.int .i64 a):=Q01 bx 0 _ rfl
   have x1:wr.cell? ⟨P,1,none⟩=some (.int .i64 b):=Q01 bx 1 _ rfl
   have x2:wr.cell? ⟨P,2,none⟩=some (.int .i64 f):=Q01 bx 2 _ rfl
   have x3:wr.cell? ⟨P,3,none⟩=some (.int .i64 s):=Q01 bx 3 _ rfl
   have x4:wr.cell? ⟨P,4,none⟩=some (.slice ov L.length cv):=Q01 bx 4 _ rfl
   clear HJ
   go_wp2_with fail
   refine (Q5n a b f s ov L.length cv wr).mono ?_
   rintro e w5 ⟨rfl,hb5⟩
   have d5:D2 k w0 w5 (.slice ov L.length cv) L (.slice og g.length cg) g:=d.call (Q5Y hb5) (d.cur.below (hb5.mono (by omega))) hk0
   have b5:=(hb5.block P (Q4I bx)).trans bx
   clear d bx x0 x1 x2 x3 x4 hb5
   cases hop:Q1X f with
   |false=>
    have hgl9:1≤g.length∧g.length≤7:=⟨hg1,by omega⟩
    have HLN:Hid (g.length=g.length):=rfl
    obtain ⟨HRT⟩:Nonempty (Hid (Q0K (Q1X f) 0 g=true)):=⟨by unfold Hid;rw [←List.append_nil g,Q1A _ _ _ HG.out];rfl⟩
    have c9:w5.cell? ⟨P,5,none⟩=some (.slice og g.length cg):=Q01 b5 5 _ rfl
    go_wp2_with fail
    refine (Q0g k (g.length:Int) _ d5.cur (by omega) (by omega)).mono ?_
    rintro e w9 ⟨pl,rfl,hpl0,hpl1,hc9,hg9⟩
    have d9:=d5.call hg9 hc9 hk0
    have b9:=Q0H b5 hg9 hPk
    have f9:w9.frozen? ⟨P,6,none⟩=false:=Q03 b9 6
    have c6:w9.cell? ⟨P,6,none⟩=some (.int .i64 0):=Q01 b9 6 _ rfl
    obtain ⟨dS,bS⟩:=d9.set b9 hk0 hP0 6 (.int .i64 pl)
    have rS:=Q0H hR0 dS.gr hkR
    have y0:(w9.setCell ⟨P,6,none⟩ (.int .i64 pl)).cell? ⟨P,0,none⟩=some (.int .i64 a):=Q01 bS 0 _ rfl
    have y1:(w9.setCell ⟨P,6,none⟩ (.int .i64 pl)).cell? ⟨P,1,none⟩=some (.int .i64 b):=Q01 bS 1 _ rfl
    have y2:(w9.setCell ⟨P,6,none⟩ (.int .i64 pl)).cell? ⟨P,2,none⟩=some (.int .i64 f):=Q01 bS 2 _ rfl
    have y3:(w9.setCell ⟨P,6,none⟩ (.int .i64 pl)).cell? ⟨P,3,none⟩=some (.int .i64 s):=Q01 bS 3 _ rfl
    have y4:(w9.setCell ⟨P,6,none⟩ (.int .i64 pl)).cell? ⟨P,4,none⟩=some (.slice ov L.length cv):=Q01 bS 4 _ rfl
    have y5:(w9.setCell ⟨P,6,none⟩ (.int .i64 pl)).cell? ⟨P,5,none⟩=some (.slice og g.length cg):=Q01 bS 5 _ rfl
    have y6:(w9.setCell ⟨P,6,none⟩ (.int .i64 pl)).cell? ⟨P,6,none⟩=some (.int .i64 pl):=Q01 bS 6 _ rfl
    have y7:(w9.setCell ⟨P,6,none⟩ (.int .i64 pl)).cell? ⟨P,7,none⟩=some (.int .i64 st):=Q01 bS 7 _ rfl
    have e0:(w9.setCell ⟨P,6,none⟩ (.int .i64 pl)).cell? ⟨w.heap.size,0,none⟩=some (.int .i64 0):=Q01 rS 0 _ rfl
    have q0:(w9.setCell ⟨P,6,none⟩ (.int .i64 pl)).frozen? ⟨w.heap.size,0,none⟩=false:=Q03 rS 0
    have e1:(w9.setCell ⟨P,6,none⟩ (.int .i64 pl)).cell? ⟨w.heap.size,1,none⟩=some (.int .i64 0):=Q01 rS 1 _ rfl
    have q1:(w9.setCell ⟨P,6,none⟩ (.int .i64 pl)).frozen? ⟨w.heap.size,1,none⟩=false:=Q03 rS 1
    have e2:(w9.setCell ⟨P,6,none⟩ (.int .i64 pl)).cell? ⟨w.heap.size,2,none⟩=some (.int .i64 0):=Q01 rS 2 _ rfl
    have q2:(w9.setCell ⟨P,6,none⟩ (.int .i64 pl)).frozen? ⟨w.heap.size,2,none⟩=false:=Q03 rS 2
    have e3:(w9.setCell ⟨P,6,none⟩ (.int .i64 pl)).cell? ⟨w.heap.size,3,none⟩=some (.int .i64 0):=Q01 rS 3 _ rfl
    have q3:(w9.setCell ⟨P,6,none⟩ (.int .i64 pl)).frozen? ⟨w.heap.size,3,none⟩=false:=Q03 rS 3
    have e4:(w9.setCell ⟨P,6,none⟩ (.int .i64 pl)).cell? ⟨w.heap.size,4,none⟩=some (.slice none 0 0):=Q01 rS 4 _ rfl
    have q4:(w9.setCell ⟨P,6,none⟩ (.int .i64 pl)).frozen? ⟨w.heap.size,4,none⟩=false:=Q03 rS 4
    have e5:(w9.setCell ⟨P,6,none⟩ (.int .i64 pl)).cell? ⟨w.heap.size,5,none⟩=some (.slice none 0 0):=Q01 rS 5 _ rfl
    have q5:(w9.setCell ⟨P,6,none⟩ (.int .i64 pl)).frozen? ⟨w.heap.size,5,none⟩=false:=Q03 rS 5
    have e6:(w9.setCell ⟨P,6,none⟩ (.int .i64 pl)).cell? ⟨w.heap.size,6,none⟩=some (.int .i64 0):=Q01 rS 6 _ rfl
    have q6:(w9.setCell ⟨P,6,none⟩ (.int .i64 pl)).frozen? ⟨w.heap.size,6,none⟩=false:=Q03 rS 6
    have e7:(w9.setCell ⟨P,6,none⟩ (.int .i64 pl)).cell? ⟨w.heap.size,7,none⟩=some (.int .i64 0):=Q01 rS 7 _ rfl
    have q7:(w9.setCell ⟨P,6,none⟩ (.int .i64 pl)).frozen? ⟨w.heap.size,7,none⟩=false:=Q03 rS 7
    have HOK:=Q00 (Q4v (L:=L) HDR.out hLn (by have:=HLN.out;omega) (by have:=HLN.out;omega) hpl0 (by have:=HLN.out;omega) hst0 hst1 HRT.out)
    have HD:=Q00 dS
    clear HRT d9 b9 hc9 hg9 bS rS dS
    go_wp2
    refine bodyPost_ret (v:=crr a b f s (.slice ov L.length cv) (.slice og g.length cg) pl st) (by simp [results,Try.results47,go_sem,e0,e1,e2,e3,e4,e5,e6,e7]) rfl ?_
    refine HD.out.fin hk hs0 hg0 a b f s pl st HOK.out hLb hLn (by have:=HLN.out;omega) ?zb ?zr ?zq
    case zb=> exact (Q06 (Q06 (Q06 (Q06 (Q06 (Q06 (Q06 (Q06 (Below.refl w.heap.size (w9.setCell ⟨P,6,none⟩ (.int .i64 pl))) 0 _) 1 _) 2 _) 3 _) 4 _) 5 _) 6 _) 7 _)
    case zr=> (repeat (refine ownsRow_setCell_below ?_ hs0 _));exact HD.out.row
    case zq=> (repeat (refine ownsRow_setCell_below ?_ hs0 _));exact HD.out.seg
   |true=>
    go_wp2_with fail
    refine (Q0Y k 2 _ d5.cur (by omega) (by omega)).mono ?_
    rintro e w6 ⟨x6,rfl,hc6,hg6⟩
    have d6:=d5.call hg6 hc6 hk0
    have b6:=Q0H b5 hg6 hPk
    clear hc6 hg6 d5 b5
    cases x6 with
    |false=>
     have hgl9:1≤g.length∧g.length≤7:=⟨hg1,by omega⟩
     have HLN:Hid (g.length=g.length):=rfl
     obtain ⟨HRT⟩:Nonempty (Hid (Q0K (Q1X f) 0 g=true)):=⟨by unfold Hid;rw [←List.append_nil g,Q1A _ _ _ HG.out];rfl⟩
     have c9:w6.cell? ⟨P,5,none⟩=some (.slice og g.length cg):=Q01 b6 5 _ rfl
     go_wp2_with fail
     refine (Q0g k (g.length:Int) _ d6.cur (by omega) (by omega)).mono ?_
     rintro e w9 ⟨pl,rfl,hpl0,hpl1,hc9,hg9⟩
     have d9:=d6.call hg9 hc9 hk0
     have b9:=Q0H b6 hg9 hPk
     have f9:w9.frozen? ⟨P,6,none⟩=false:=Q03 b9 6
     have c6:w9.cell? ⟨P,6,none⟩=some (.int .i64 0):=Q01 b9 6 _ rfl
     obtain ⟨dS,bS⟩:=d9.set b9 hk0 hP0 6 (.int .i64 pl)
     have rS:=Q0H hR0 dS.gr hkR
     have y0:(w9.setCell ⟨P,6,none⟩ (.int .i64 pl)).cell? ⟨P,0,none⟩=some (.int .i64 a):=Q01 bS 0 _ rfl
     have y1:(w9.setCell ⟨P,6,none⟩ (.int .i64 pl)).cell? ⟨P,1,none⟩=some (.int .i64 b):=Q01 bS 1 _ rfl
     have y2:(w9.setCell ⟨P,6,none⟩ (.int .i64 pl)).cell? ⟨P,2,none⟩=some (.int .i64 f):=Q01 bS 2 _ rfl
     have y3:(w9.setCell ⟨P,6,none⟩ (.int .i64 pl)).cell? ⟨P,3,none⟩=some (.int .i64 s):=Q01 bS 3 _ rfl
     have y4:(w9.setCell ⟨P,6,none⟩ (.int .i64 pl)).cell? ⟨P,4,none⟩=some (.slice ov L.length cv):=Q01 bS 4 _ rfl
     have y5:(w9.setCell ⟨P,6,none⟩ (.int .i64 pl)).cell? ⟨P,5,none⟩=some (.slice og g.length cg):=Q01 bS 5 _ rfl
     have y6:(w9.setCell ⟨P,6,none⟩ (.int .i64 pl)).cell? ⟨P,6,none⟩=some (.int .i64 pl):=Q01 bS 6 _ rfl
     have y7:(w9.setCell ⟨P,6,none⟩ (.int .i64 pl)).cell? ⟨P,7,none⟩=some (.int .i64 st):=Q01 bS 7 _ rfl
     have e0:(w9.setCell ⟨P,6,none⟩ (.int .i64 pl)).cell? ⟨w.heap.size,0,none⟩=some (.int .i64 0):=Q01 rS 0 _ rfl
     have q0:(w9.setCell ⟨P,6,none⟩ (.int .i64 pl)).frozen? ⟨w.heap.size,0,none⟩=false:=Q03 rS 0
     have e1:(w9.setCell ⟨P,6,none⟩ (.int .i64 pl)).cell? ⟨w.heap.size,1,none⟩=some (.int .i64 0):=Q01 rS 1 _ rfl
     have q1:(w9.setCell ⟨P,6,none⟩ (.int .i64 pl)).frozen? ⟨w.heap.size,1,none⟩=false:=Q03 rS 1
     have e2:(w9.setCell ⟨P,6,none⟩ (.int .i64 pl)).cell? ⟨w.heap.size,2,none⟩=some (.int .i64 0):=Q01 rS 2 _ rfl
     have q2:(w9.setCell ⟨P,6,none⟩ (.int .i64 pl)).frozen? ⟨w.heap.size,2,none⟩=false:=Q03 rS 2
     have e3:(w9.setCell ⟨P,6,none⟩ (.int .i64 pl)).cell? ⟨w.heap.size,3,none⟩=some (.int .i64 0):=Q01 rS 3 _ rfl
     have q3:(w9.setCell ⟨P,6,none⟩ (.int .i64 pl)).frozen? ⟨w.heap.size,3,none⟩=false:=Q03 rS 3
     have e4:(w9.setCell ⟨P,6,none⟩ (.int .i64 pl)).cell? ⟨w.heap.size,4,none⟩=some (.slice none 0 0):=Q01 rS 4 _ rfl
     have q4:(w9.setCell ⟨P,6,none⟩ (.int .i64 pl)).frozen? ⟨w.heap.size,4,none⟩=false:=Q03 rS 4
     have e5:(w9.setCell ⟨P,6,none⟩ (.int .i64 pl)).cell? ⟨w.heap.size,5,none⟩=some (.slice none 0 0):=Q01 rS 5 _ rfl
     have q5:(w9.setCell ⟨P,6,none⟩ (.int .i64 pl)).frozen? ⟨w.heap.size,5,none⟩=false:=Q03 rS 5
     have e6:(w9.setCell ⟨P,6,none⟩ (.int .i64 pl)).cell? ⟨w.heap.size,6,none⟩=some (.int .i64 0):=Q01 rS 6 _ rfl
     have q6:(w9.setCell ⟨P,6,none⟩ (.int .i64 pl)).frozen? ⟨w.heap.size,6,none⟩=false:=Q03 rS 6
     have e7:(w9.setCell ⟨P,6,none⟩ (.int .i64 pl)).cell? ⟨w.heap.size,7,none⟩=some (.int .i64 0):=Q01 rS 7 _ rfl
     have q7:(w9.setCell ⟨P,6,none⟩ (.int .i64 pl)).frozen? ⟨w.heap.size,7,none⟩=false:=Q03 rS 7
     have HOK:=Q00 (Q4v (L:=L) HDR.out hLn (by have:=HLN.out;omega) (by have:=HLN.out;omega) hpl0 (by have:=HLN.out;omega) hst0 hst1 HRT.out)
     have HD:=Q00 dS
     clear HRT d9 b9 hc9 hg9 bS rS dS
     go_wp2
     refine bodyPost_ret (v:=crr a b f s (.slice ov L.length cv) (.slice og g.length cg) pl st) (by simp [results,Try.results47,go_sem,e0,e1,e2,e3,e4,e5,e6,e7]) rfl ?_
     refine HD.out.fin hk hs0 hg0 a b f s pl st HOK.out hLb hLn (by have:=HLN.out;omega) ?zb ?zr ?zq
     case zb=> exact (Q06 (Q06 (Q06 (Q06 (Q06 (Q06 (Q06 (Q06 (Below.refl w.heap.size (w9.setCell ⟨P,6,none⟩ (.int .i64 pl))) 0 _) 1 _) 2 _) 3 _) 4 _) 5 _) 6 _) 7 _)
     case zr=> (repeat (refine ownsRow_setCell_below ?_ hs0 _));exact HD.out.row
     case zq=> (repeat (refine ownsRow_setCell_below ?_ hs0 _));exact HD.out.seg
    |true=>
     have c6:w6.cell? ⟨P,5,none⟩=some (.slice og g.length cg):=Q01 b6 5 _ rfl
     go_wp2
     go_region_law (first|(go_simp;go_at_call 45;refine (Q0g k 4 _ d7.cur (by omega) (by omega)).mono ?_;rintro e w8 ⟨y,rfl,hy0,hy1,hc8,hg8⟩;have d8:=d7.call hg8 hc8 hk0;have b8:=Q0H b7 hg8 hPk;have c8:w8.cell? ⟨P,5,none⟩=some (.slice og g.length cg):=Q01 b8 5 _ rfl;have c8a:∀O,(w8.alloc O).cell? ⟨P,5,none⟩=some (.slice og g.length cg):=(fun O=> Q01 (Q1f b8 O) 5 _ rfl);dsimp only)|(refine Q16 Q8x rfl (.tmp 35) (.tmp 42) rfl w0.heap.size (.slice og g.length cg) g rfl (d8.alloc hk0 _).seg (some ⟨w8.heap.size,0,none⟩) 2 _ [(x,1),(y,1)] 2 rfl rfl (fun h=> by cases h) (Q6j w8 x 1 y 1) (by simp;omega) (d8.alloc hk0 _).gr.size ?_;intro va wa hva hga _;have HTL:Hid (Q0K true 0 [(x,1),(y,1)]=true∧[((x:Int),(1:Int)),(y,1)].length=2):=(show _∧_ from ⟨Q4i rfl ⟨hx0,hx1⟩ ⟨hy0,hy1⟩,rfl⟩);obtain ⟨tl,htl⟩:∃tl,[((x:Int),(1:Int)),(y,1)]=tl:=⟨_,rfl⟩;rw [htl] at hva HTL;clear htl;obtain ⟨oa,ka,ea,_⟩:=(Q1S.2 hva).open;obtain ⟨na,hna⟩:∃n,(g++tl).length=n:=⟨_,rfl⟩;have HNA:=Q00 hna;rw [hna] at ea;rw [ea] at hva ⊢;clear hna;obtain ⟨da,ba⟩:=(d8.alloc hk0 _).app (Q1f b8 _) hk0 hva hga;have ca:wa.cell? ⟨P,5,none⟩=some (.slice og g.length cg):=Q01 ba 5 _ rfl;have fa:wa.frozen? ⟨P,5,none⟩=false:=Q03 ba 5)|(refine Q16 Q8x rfl (.tmp 35) (.tmp 42) rfl w0.heap.size (.slice og g.length cg) g rfl (d8.alloc hk0 _).seg (some ⟨w8.heap.size,0,none⟩) 2 _ [(y,1),(x,1)] 2 rfl rfl (fun h=> by cases h) (Q6j w8 y 1 x 1) (by simp;omega) (d8.alloc hk0 _).gr.size ?_;intro va wa hva hga _;have HTL:Hid (Q0K true 0 [(y,1),(x,1)]=true∧[((y:Int),(1:Int)),(x,1)].length=2):=(show _∧_ from ⟨Q4i rfl ⟨hy0,hy1⟩ ⟨hx0,hx1⟩,rfl⟩);obtain ⟨tl,htl⟩:∃tl,[((y:Int),(1:Int)),(x,1)]=tl:=⟨_,rfl⟩;rw [htl] at hva HTL;clear htl;obtain ⟨oa,ka,ea,_⟩:=(Q1S.2 hva).open;obtain ⟨na,hna⟩:∃n,(g++tl).length=n:=⟨_,rfl⟩;have HNA:=Q00 hna;rw [hna] at ea;rw [ea] at hva ⊢;clear hna;obtain ⟨da,ba⟩:=(d8.alloc hk0 _).app (Q1f b8 _) hk0 hva hga;have ca:wa.cell? ⟨P,5,none⟩=some (.slice og g.length cg):=Q01 ba 5 _ rfl;have fa:wa.frozen? ⟨P,5,none⟩=false:=Q03 ba 5)|(go_simp;go_at_call 45;refine (Q0g k 4 _ d6.drew.cur (by omega) (by omega)).mono ?_;rintro e w7 ⟨x,rfl,hx0,hx1,hc7,hg7⟩;have d7:=d6.drew.call hg7 hc7 hk0;have b7:=Q0H (W:=w6.drew) b6 hg7 hPk;have c7:w7.cell? ⟨P,5,none⟩=some (.slice og g.length cg):=Q01 b7 5 _ rfl;dsimp only))
     all_goals (
      have HG2:Hid (Q0K (Q1X f) 0 (g++tl)=true):=by unfold Hid;rw [Q1A _ _ _ HG.out,hop];exact HTL.out.1
      have HL2:Hid (1≤na∧na≤7):=by have:=HTL.out.2;have h9:=HNA.out;rw [List.length_append] at h9;unfold Hid;omega
      obtain ⟨db,bb⟩:=da.set ba hk0 hP0 5 (.slice oa na ka)
      have DB:=Q00 db
      have BB:=Q00 bb
      clear hva hga da ba d8 b8 c8 c8a d7 b7 c7 d6 b6 hc7 hg7 hc8 hg8 db bb hop HG HTL
      generalize g++tl=g2 at *
      go_wp2_with fail
      have db:=DB.out
      have bb:=BB.out
      clear DB BB
      generalize hwb:wa.setCell ⟨P,5,none⟩ (.slice oa na ka)=wb at *
      clear hwb ca fa c6
      have hgl9:1≤na∧na≤7:=HL2.out
      have HLN:Hid (g2.length=na):=HNA.out
      obtain ⟨HRT⟩:Nonempty (Hid (Q0K (Q1X f) 0 g2=true)):=⟨HG2.out⟩
      refine (Q0g k (na:Int) _ db.cur (by omega) (by omega)).mono ?_
      rintro e w9 ⟨pl,rfl,hpl0,hpl1,hc9,hg9⟩
      have d9:=db.call hg9 hc9 hk0
      have b9:=Q0H bb hg9 hPk
      have f9:w9.frozen? ⟨P,6,none⟩=false:=Q03 b9 6
      have c6:w9.cell? ⟨P,6,none⟩=some (.int .i64 0):=Q01 b9 6 _ rfl
      obtain ⟨dS,bS⟩:=d9.set b9 hk0 hP0 6 (.int .i64 pl)
      have rS:=Q0H hR0 dS.gr hkR
      have y0:(w9.setCell ⟨P,6,none⟩ (.int .i64 pl)).cell? ⟨P,0,none⟩=some (.int .i64 a):=Q01 bS 0 _ rfl
      have y1:(w9.setCell ⟨P,6,none⟩ (.int .i64 pl)).cell? ⟨P,1,none⟩=some (.int .i64 b):=Q01 bS 1 _ rfl
      have y2:(w9.setCell ⟨P,6,none⟩ (.int .i64 pl)).cell? ⟨P,2,none⟩=some (.int .i64 f):=Q01 bS 2 _ rfl
      have y3:(w9.setCell ⟨P,6,none⟩ (.int .i64 pl)).cell? ⟨P,3,none⟩=some (.int .i64 s):=Q01 bS 3 _ rfl
      have y4:(w9.setCell ⟨P,6,none⟩ (.int .i64 pl)).cell? ⟨P,4,none⟩=some (.slice ov L.length cv):=Q01 bS 4 _ rfl
      have y5:(w9.setCell ⟨P,6,none⟩ (.int .i64 pl)).cell? ⟨P,5,none⟩=some (.slice oa na ka):=Q01 bS 5 _ rfl
      have y6:(w9.setCell ⟨P,6,none⟩ (.int .i64 pl)).cell? ⟨P,6,none⟩=some (.int .i64 pl):=Q01 bS 6 _ rfl
      have y7:(w9.setCell ⟨P,6,none⟩ (.int .i64 pl)).cell? ⟨P,7,none⟩=some (.int .i64 st):=Q01 bS 7 _ rfl
      have e0:(w9.setCell ⟨P,6,none⟩ (.int .i64 pl)).cell? ⟨w.heap.size,0,none⟩=some (.int .i64 0):=Q01 rS 0 _ rfl
      have q0:(w9.setCell ⟨P,6,none⟩ (.int .i64 pl)).frozen? ⟨w.heap.size,0,none⟩=false:=Q03 rS 0
      have e1:(w9.setCell ⟨P,6,none⟩ (.int .i64 pl)).cell? ⟨w.heap.size,1,none⟩=some (.int .i64 0):=Q01 rS 1 _ rfl
      have q1:(w9.setCell ⟨P,6,none⟩ (.int .i64 pl)).frozen? ⟨w.heap.size,1,none⟩=false:=Q03 rS 1
      have e2:(w9.setCell ⟨P,6,none⟩ (.int .i64 pl)).cell? ⟨w.heap.size,2,none⟩=some (.int .i64 0):=Q01 rS 2 _ rfl
      have q2:(w9.setCell ⟨P,6,none⟩ (.int .i64 pl)).frozen? ⟨w.heap.size,2,none⟩=false:=Q03 rS 2
      have e3:(w9.setCell ⟨P,6,none⟩ (.int .i64 pl)).cell? ⟨w.heap.size,3,none⟩=some (.int .i64 0):=Q01 rS 3 _ rfl
      have q3:(w9.setCell ⟨P,6,none⟩ (.int .i64 pl)).frozen? ⟨w.heap.size,3,none⟩=false:=Q03 rS 3
      have e4:(w9.setCell ⟨P,6,none⟩ (.int .i64 pl)).cell? ⟨w.heap.size,4,none⟩=some (.slice none 0 0):=Q01 rS 4 _ rfl
      have q4:(w9.setCell ⟨P,6,none⟩ (.int .i64 pl)).frozen? ⟨w.heap.size,4,none⟩=false:=Q03 rS 4
      have e5:(w9.setCell ⟨P,6,none⟩ (.int .i64 pl)).cell? ⟨w.heap.size,5,none⟩=some (.slice none 0 0):=Q01 rS 5 _ rfl
      have q5:(w9.setCell ⟨P,6,none⟩ (.int .i64 pl)).frozen? ⟨w.heap.size,5,none⟩=false:=Q03 rS 5
      have e6:(w9.setCell ⟨P,6,none⟩ (.int .i64 pl)).cell? ⟨w.heap.size,6,none⟩=some (.int .i64 0):=Q01 rS 6 _ rfl
      have q6:(w9.setCell ⟨P,6,none⟩ (.int .i64 pl)).frozen? ⟨w.heap.size,6,none⟩=false:=Q03 rS 6
      have e7:(w9.setCell ⟨P,6,none⟩ (.int .i64 pl)).cell? ⟨w.heap.size,7,none⟩=some (.int .i64 0):=Q01 rS 7 _ rfl
      have q7:(w9.setCell ⟨P,6,none⟩ (.int .i64 pl)).frozen? ⟨w.heap.size,7,none⟩=false:=Q03 rS 7
      have HOK:=Q00 (Q4v (L:=L) HDR.out hLn (by have:=HLN.out;omega) (by have:=HLN.out;omega) hpl0 (by have:=HLN.out;omega) hst0 hst1 HRT.out)
      have HD:=Q00 dS
      clear HRT d9 b9 hc9 hg9 bS rS dS
      go_wp2
      refine bodyPost_ret (v:=crr a b f s (.slice ov L.length cv) (.slice oa na ka) pl st) (by simp [results,Try.results47,go_sem,e0,e1,e2,e3,e4,e5,e6,e7]) rfl ?_
      refine HD.out.fin hk hs0 hg0 a b f s pl st HOK.out hLb hLn (by have:=HLN.out;omega) ?zb ?zr ?zq
      case zb=> exact (Q06 (Q06 (Q06 (Q06 (Q06 (Q06 (Q06 (Q06 (Below.refl w.heap.size (w9.setCell ⟨P,6,none⟩ (.int .i64 pl))) 0 _) 1 _) 2 _) 3 _) 4 _) 5 _) 6 _) 7 _)
      case zr=> (repeat (refine ownsRow_setCell_below ?_ hs0 _));exact HD.out.row
      case zq=> (repeat (refine ownsRow_setCell_below ?_ hs0 _));exact HD.out.seg)
def Q8s (w:World) (k:Nat) (e:Ending) (w':World):Prop:=∃(v:Value) (m:Cm),e=.returned v∧Q8i w' w.heap.size v m∧isB m.l∧m.l.length≤2000∧m.g.length≤8∧isCur k w'∧w.grownBy w' (some k)
theorem D2.finB {k:Nat} {w w0 W:World} {v vg:Value} {L:List Int} {g:List (Int × Int)} (h:D2 k w0 W v L vg g) (hk:k < w.heap.size) (hs:w.heap.size < w0.heap.size) (hg0:w.grownBy w0 (some k)) (a b f s pl st:Int) (hLb:isB L) (hLn:L.length≤2000) (hgn:g.length≤8) {W':World} (hb:Below w.heap.size W W') (hr:ownB W' w0.heap.size v L) (hq:ownL Q5G 41 W' w0.heap.size vg g):
  Q8s w k (.returned (crr a b f s v vg pl st)) W':=by
 obtain ⟨h1,h2,h3⟩:=h.ends hk hs hg0 hb hr hq a b f s pl st
 exact ⟨_,_,rfl,h1,hLb,hLn,hgn,h2,h3⟩
theorem D2.newrow {k:Nat} {w0 W:World} {v v' vg:Value} {L L':List Int} {g:List (Int × Int)} (h:D2 k w0 W v L vg g) (hr:ownB W w0.heap.size v' L'):D2 k w0 W v' L' vg g:=⟨hr,h.seg,h.cur,h.gr⟩
theorem D2.noseg {k:Nat} {w0 W:World} {v vg:Value} {L:List Int} {g:List (Int × Int)} (h:D2 k w0 W v L vg g):D2 k w0 W v L (.slice none 0 0) []:=⟨h.row,World.ownsRow_nil _ _ _ _,h.cur,h.gr⟩
theorem Q3s {W:World} {B:Nat} (vs:List Int) (h:W.heap[B]? =some (.cells (vs.map (Value.int .i64)).toArray 3 (0,0))):∀q,q < vs.length→W.cell? ⟨B,q,none⟩=some (.int .i64 (vs.getD q 0)):=by
 intro q hq
 simp [World.cell?,h,hq]
theorem Q3G (z:Int) (h0:0≤z) (h1:z < 4):IntKind.i64.wrap (z - 1)=z - 1:=by
 simp [IntKind.wrap,IntKind.bits,IntKind.signed];omega
theorem Q2Y (z:Int) (h0:0≤z) (h1:z < 4):wrap64 (z - 1)=z - 1:=by
 unfold wrap64;omega
theorem Q66 (k:Nat) (w:World) (hc:isCur k w) (hk:k < w.heap.size):
  Calls Try.prog 23 #[.pointer (some ⟨k,0,none⟩)] w fun e w'=> Q8s w k e w':=by
 have hR0:(w.alloc (.cells #[.int .i64 0,.int .i64 0,.int .i64 0,.int .i64 0,.slice none 0 0,.slice none 0 0,.int .i64 0,.int .i64 0] 34)).heap[w.heap.size]? =some (.cells #[.int .i64 0,.int .i64 0,.int .i64 0,.int .i64 0,.slice none 0 0,.slice none 0 0,.int .i64 0,.int .i64 0] 34 (0,0)):=World.alloc_heap_new w _
 have hc0:=hc.alloc hk (.cells #[.int .i64 0,.int .i64 0,.int .i64 0,.int .i64 0,.slice none 0 0,.slice none 0 0,.int .i64 0,.int .i64 0] 34)
 have hg0:=Q0w w (.cells #[.int .i64 0,.int .i64 0,.int .i64 0,.int .i64 0,.slice none 0 0,.slice none 0 0,.int .i64 0,.int .i64 0] 34) k
 go_enter Try.func23,Try.ntmps23
 go_wp2_with fail
 generalize hw0:w.alloc (.cells #[.int .i64 0,.int .i64 0,.int .i64 0,.int .i64 0,.slice none 0 0,.slice none 0 0,.int .i64 0,.int .i64 0] 34)=w0 at *
 have hs0:w.heap.size < w0.heap.size:=by rw [←hw0];simp
 have hk0:k < w0.heap.size:=by omega
 have hkR:w.heap.size≠k:=by omega
 clear hw0
 refine (Q4k k _ hc0 hk0).mono ?_
 rintro e w1 ⟨v,⟨a,b,f,s,L,g,pl,st⟩,rfl,⟨vl,vg,rfl,hrw,hsg⟩,_,hLb,hLn,hgn,hc1,hg1⟩
 dsimp only at hrw hsg hLb hLn hgn ⊢
 obtain ⟨ov,cv,ev,_⟩:=hrw.open
 subst ev
 obtain ⟨og,cg,eg,_⟩:=hsg.open
 subst eg
 have hL2:L.length≤2000:=by omega
 have hg8:g.length≤8:=by omega
 have d1:D2 k w0 w1 (.slice ov L.length cv) L (.slice og g.length cg) g:=⟨hrw,Q1S.1 hsg,hc1,hg1⟩
 have b2:(w1.alloc (.cells #[.int .i64 a,.int .i64 b,.int .i64 f,.int .i64 s,.slice ov L.length cv,.slice og g.length cg,.int .i64 pl,.int .i64 st] 34)).heap[w1.heap.size]? =some (.cells #[.int .i64 a,.int .i64 b,.int .i64 f,.int .i64 s,.slice ov L.length cv,.slice og g.length cg,.int .i64 pl,.int .i64 st] 34 (0,0)):=World.alloc_heap_new w1 _
 have d2:=d1.alloc hk0 (.cells #[.int .i64 a,.int .i64 b,.int .i64 f,.int .i64 s,.slice ov L.length cv,.slice og g.length cg,.int .i64 pl,.int .i64 st] 34)
 have hs1:w0.heap.size≤w1.heap.size:=hg1.size
 clear hc hc0 hc1 hg1 hrw hsg d1
 go_wp2_with fail
 generalize hw2:w1.alloc (.cells #[.int .i64 a,.int .i64 b,.int .i64 f,.int .i64 s,.slice ov L.length cv,.slice og g.length cg,.int .i64 pl,.int .i64 st] 34)=w2 at *
 clear hw2
 obtain ⟨P,hPe⟩:∃P,w1.heap.size=P:=⟨_,rfl⟩
 have hP0:w0.heap.size≤P:=by omega
 have hPk:P≠k:=by omega
 rw [hPe] at b2 ⊢
 clear hPe hs1
 refine (Q0Y k 7 _ d2.cur (by omega) (by omega)).mono ?_
 rintro e w3 ⟨x3,rfl,hc3,hg3⟩
 have d3:=d2.call hg3 hc3 hk0
 have b3:=Q0H b2 hg3 hPk
 clear d2 b2 hc3 hg3
 cases x3 with
 |false=>
  have rS:=Q0H hR0 d3.gr hkR
  have y0:w3.cell? ⟨P,0,none⟩=some (.int .i64 a):=Q01 b3 0 _ rfl
  have y1:w3.cell? ⟨P,1,none⟩=some (.int .i64 b):=Q01 b3 1 _ rfl
  have y2:w3.cell? ⟨P,2,none⟩=some (.int .i64 f):=Q01 b3 2 _ rfl
  have y3:w3.cell? ⟨P,3,none⟩=some (.int .i64 s):=Q01 b3 3 _ rfl
  have y4:w3.cell? ⟨P,4,none⟩=some (.slice ov L.length cv):=Q01 b3 4 _ rfl
  have y5:w3.cell? ⟨P,5,none⟩=some (.slice og g.length cg):=Q01 b3 5 _ rfl
  have y6:w3.cell? ⟨P,6,none⟩=some (.int .i64 pl):=Q01 b3 6 _ rfl
  have y7:w3.cell? ⟨P,7,none⟩=some (.int .i64 st):=Q01 b3 7 _ rfl
  have e0:w3.cell? ⟨w.heap.size,0,none⟩=some (.int .i64 0):=Q01 rS 0 _ rfl
  have q0:w3.frozen? ⟨w.heap.size,0,none⟩=false:=Q03 rS 0
  have e1:w3.cell? ⟨w.heap.size,1,none⟩=some (.int .i64 0):=Q01 rS 1 _ rfl
  have q1:w3.frozen? ⟨w.heap.size,1,none⟩=false:=Q03 rS 1
  have e2:w3.cell? ⟨w.heap.size,2,none⟩=some (.int .i64 0):=Q01 rS 2 _ rfl
  have q2:w3.frozen? ⟨w.heap.size,2,none⟩=false:=Q03 rS 2
  have e3:w3.cell? ⟨w.heap.size,3,none⟩=some (.int .i64 0):=Q01 rS 3 _ rfl
  have q3:w3.frozen? ⟨w.heap.size,3,none⟩=false:=Q03 rS 3
  have e4:w3.cell? ⟨w.heap.size,4,none⟩=some (.slice none 0 0):=Q01 rS 4 _ rfl
  have q4:w3.frozen? ⟨w.heap.size,4,none⟩=false:=Q03 rS 4
  have e5:w3.cell? ⟨w.heap.size,5,none⟩=some (.slice none 0 0):=Q01 rS 5 _ rfl
  have q5:w3.frozen? ⟨w.heap.size,5,none⟩=false:=Q03 rS 5
  have e6:w3.cell? ⟨w.heap.size,6,none⟩=some (.int .i64 0):=Q01 rS 6 _ rfl
  have q6:w3.frozen? ⟨w.heap.size,6,none⟩=false:=Q03 rS 6
  have e7:w3.cell? ⟨w.heap.size,7,none⟩=some (.int .i64 0):=Q01 rS 7 _ rfl
  have q7:w3.frozen? ⟨w.heap.size,7,none⟩=false:=Q03 rS 7
  have HD:=Q00 d3
  clear rS d3 b3
  go_wp2
  refine bodyPost_ret (v:=crr a b f s (.slice ov L.length cv) (.slice og g.length cg) pl st) (by simp [results,Try.results23,go_sem,e0,e1,e2,e3,e4,e5,e6,e7]) rfl ?_
  refine HD.out.finB hk hs0 hg0 a b f s pl st hLb hL2 hg8 ?zb ?zr ?zq
  case zb=> exact (Q06 (Q06 (Q06 (Q06 (Q06 (Q06 (Q06 (Q06 (Below.refl w.heap.size w3) 0 _) 1 _) 2 _) 3 _) 4 _) 5 _) 6 _) 7 _)
  case zr=> (repeat (refine ownsRow_setCell_below ?_ hs0 _));exact HD.out.row
  case zq=> (repeat (refine ownsRow_setCell_below ?_ hs0 _));exact HD.out.seg
 |true=>
  go_wp2_with fail
  refine (Q0g k 5 _ d3.cur (by omega) (by omega)).mono ?_
  rintro e w4 ⟨j,rfl,hj0,hj1,hc4,hg4⟩
  have d4:=d3.call hg4 hc4 hk0
  have b4:=Q0H b3 hg4 hPk
  clear d3 b3 hc4 hg4
  have hs4:w0.heap.size≤w4.heap.size:=d4.gr.size
  rcases (show j=0∨j=1∨j=2∨j=3∨j=4 by omega) with h|h|h|h|h
  ·subst h
   go_wp2_with fail
   refine (Q5P k w4 d4.cur (by omega)).mono ?_
   rintro e w5 ⟨a',b',f',s',v',L',rfl,hv',hLb',hLn',hc5,hg5⟩
   obtain ⟨ov',cv',ev',_⟩:=hv'.open
   subst ev'
   have d5:=(d4.call hg5 hc5 hk0).newrow (Q0x hv' hs4)
   have b5:=Q0H b4 hg5 hPk
   clear d4 b4 hg5 hc5 hv'
   have c0z:w5.cell? ⟨P,0,none⟩=some (.int .i64 a):=Q01 b5 0 _ rfl
   have f0z:w5.frozen? ⟨P,0,none⟩=false:=Q03 b5 0
   have c1z:w5.cell? ⟨P,1,none⟩=some (.int .i64 b):=Q01 b5 1 _ rfl
   have f1z:w5.frozen? ⟨P,1,none⟩=false:=Q03 b5 1
   have c2z:w5.cell? ⟨P,2,none⟩=some (.int .i64 f):=Q01 b5 2 _ rfl
   have f2z:w5.frozen? ⟨P,2,none⟩=false:=Q03 b5 2
   have c3z:w5.cell? ⟨P,3,none⟩=some (.int .i64 s):=Q01 b5 3 _ rfl
   have f3z:w5.frozen? ⟨P,3,none⟩=false:=Q03 b5 3
   have c4z:w5.cell? ⟨P,4,none⟩=some (.slice ov L.length cv):=Q01 b5 4 _ rfl
   have f4z:w5.frozen? ⟨P,4,none⟩=false:=Q03 b5 4
   obtain ⟨d50,b50⟩:=d5.set b5 hk0 hP0 0 (.int .i64 a')
   obtain ⟨d51,b51⟩:=d50.set b50 hk0 hP0 1 (.int .i64 b')
   obtain ⟨d52,b52⟩:=d51.set b51 hk0 hP0 2 (.int .i64 f')
   obtain ⟨d53,b53⟩:=d52.set b52 hk0 hP0 3 (.int .i64 s')
   obtain ⟨d54,b54⟩:=d53.set b53 hk0 hP0 4 (.slice ov' L'.length cv')
   clear d5 b5 d50 b50 d51 b51 d52 b52 d53 b53
   have rS:=Q0H hR0 d54.gr hkR
   have y0:(((((w5.setCell ⟨P,0,none⟩ (.int .i64 a')).setCell ⟨P,1,none⟩ (.int .i64 b')).setCell ⟨P,2,none⟩ (.int .i64 f')).setCell ⟨P,3,none⟩ (.int .i64 s')).setCell ⟨P,4,none⟩ (.slice ov' L'.length cv')).cell? ⟨P,0,none⟩=some (.int .i64 a'):=Q01 b54 0 _ rfl
   have y1:(((((w5.setCell ⟨P,0,none⟩ (.int .i64 a')).setCell ⟨P,1,none⟩ (.int .i64 b')).setCell ⟨P,2,none⟩ (.int .i64 f')).setCell ⟨P,3,none⟩ (.int .i64 s')).setCell ⟨P,4,none⟩ (.slice ov' L'.length cv')).cell? ⟨P,1,none⟩=some (.int .i64 b'):=Q01 b54 1 _ rfl
   have y2:(((((w5.setCell ⟨P,0,none⟩ (.int .i64 a')).setCell ⟨P,1,none⟩ (.int .i64 b')).setCell ⟨P,2,none⟩ (.int .i64 f')).setCell ⟨P,3,none⟩ (.int .i64 s')).setCell ⟨P,4,none⟩ (.slice ov' L'.length cv')).cell? ⟨P,2,none⟩=some (.int .i64 f'):=Q01 b54 2 _ rfl
   have y3:(((((w5.setCell ⟨P,0,none⟩ (.int .i64 a')).setCell ⟨P,1,none⟩ (.int .i64 b')).setCell ⟨P,2,none⟩ (.int .i64 f')).setCell ⟨P,3,none⟩ (.int .i64 s')).setCell ⟨P,4,none⟩ (.slice ov' L'.length cv')).cell? ⟨P,3,none⟩=some (.int .i64 s'):=Q01 b54 3 _ rfl
   have y4:(((((w5.setCell ⟨P,0,none⟩ (.int .i64 a')).setCell ⟨P,1,none⟩ (.int .i64 b')).setCell ⟨P,2,none⟩ (.int .i64 f')).setCell ⟨P,3,none⟩ (.int .i64 s')).setCell ⟨P,4,none⟩ (.slice ov' L'.length cv')).cell? ⟨P,4,none⟩=some (.slice ov' L'.length cv'):=Q01 b54 4 _ rfl
   have y5:(((((w5.setCell ⟨P,0,none⟩ (.int .i64 a')).setCell ⟨P,1,none⟩ (.int .i64 b')).setCell ⟨P,2,none⟩ (.int .i64 f')).setCell ⟨P,3,none⟩ (.int .i64 s')).setCell ⟨P,4,none⟩ (.slice ov' L'.length cv')).cell? ⟨P,5,none⟩=some (.slice og g.length cg):=Q01 b54 5 _ rfl
   have y6:(((((w5.setCell ⟨P,0,none⟩ (.int .i64 a')).setCell ⟨P,1,none⟩ (.int .i64 b')).setCell ⟨P,2,none⟩ (.int .i64 f')).setCell ⟨P,3,none⟩ (.int .i64 s')).setCell ⟨P,4,none⟩ (.slice ov' L'.length cv')).cell? ⟨P,6,none⟩=some (.int .i64 pl):=Q01 b54 6 _ rfl
   have y7:(((((w5.setCell ⟨P,0,none⟩ (.int .i64 a')).setCell ⟨P,1,none⟩ (.int .i64 b')).setCell ⟨P,2,none⟩ (.int .i64 f')).setCell ⟨P,3,none⟩ (.int .i64 s')).setCell ⟨P,4,none⟩ (.slice ov' L'.length cv')).cell? ⟨P,7,none⟩=some (.int .i64 st):=Q01 b54 7 _ rfl
   have e0:(((((w5.setCell ⟨P,0,none⟩ (.int .i64 a')).setCell ⟨P,1,none⟩ (.int .i64 b')).setCell ⟨P,2,none⟩ (.int .i64 f')).setCell ⟨P,3,none⟩ (.int .i64 s')).setCell ⟨P,4,none⟩ (.slice ov' L'.length cv')).cell? ⟨w.heap.size,0,none⟩=some (.int .i64 0):=Q01 rS 0 _ rfl
   have q0:(((((w5.setCell ⟨P,0,none⟩ (.int .i64 a')).setCell ⟨P,1,none⟩ (.int .i64 b')).setCell ⟨P,2,none⟩ (.int .i64 f')).setCell ⟨P,3,none⟩ (.int .i64 s')).setCell ⟨P,4,none⟩ (.slice ov' L'.length cv')).frozen? ⟨w.heap.size,0,none⟩=false:=Q03 rS 0
   have e1:(((((w5.setCell ⟨P,0,none⟩ (.int .i64 a')).setCell ⟨P,1,none⟩ (.int .i64 b')).setCell ⟨P,2,none⟩ (.int .i64 f')).setCell ⟨P,3,none⟩ (.int .i64 s')).setCell ⟨P,4,none⟩ (.slice ov' L'.length cv')).cell? ⟨w.heap.size,1,none⟩=some (.int .i64 0):=Q01 rS 1 _ rfl
   have q1:(((((w5.setCell ⟨P,0,none⟩ (.int .i64 a')).setCell ⟨P,1,none⟩ (.int .i64 b')).setCell ⟨P,2,none⟩ (.int .i64 f')).setCell ⟨P,3,none⟩ (.int .i64 s')).setCell ⟨P,4,none⟩ (.slice ov' L'.length cv')).frozen? ⟨w.heap.size,1,none⟩=false:=Q03 rS 1
   have e2:(((((w5.setCell ⟨P,0,none⟩ (.int .i64 a')).setCell ⟨P,1,none⟩ (.int .i64 b')).setCell ⟨P,2,none⟩ (.int .i64 f')).setCell ⟨P,3,none⟩ (.int .i64 s')).setCell ⟨P,4,none⟩ (.slice ov' L'.length cv')).cell? ⟨w.heap.size,2,none⟩=some (.int .i64 0):=Q01 rS 2 _ rfl
   have q2:(((((w5.setCell ⟨P,0,none⟩ (.int .i64 a')).setCell ⟨P,1,none⟩ (.int .i64 b')).setCell ⟨P,2,none⟩ (.int .i64 f')).setCell ⟨P,3,none⟩ (.int .i64 s')).setCell ⟨P,4,none⟩ (.slice ov' L'.length cv')).frozen? ⟨w.heap.size,2,none⟩=false:=Q03 rS 2
   have e3:(((((w5.setCell ⟨P,0,none⟩ (.int .i64 a')).setCell ⟨P,1,none⟩ (.int .i64 b')).setCell ⟨P,2,none⟩ (.int .i64 f')).setCell ⟨P,3,none⟩ (.int .i64 s')).setCell ⟨P,4,none⟩ (.slice ov' L'.length cv')).cell? ⟨w.heap.size,3,none⟩=some (.int .i64 0):=Q01 rS 3 _ rfl
   have q3:(((((w5.setCell ⟨P,0,none⟩ (.int .i64 a')).setCell ⟨P,1,none⟩ (.int .i64 b')).setCell ⟨P,2,none⟩ (.int .i64 f')).setCell ⟨P,3,none⟩ (.int .i64 s')).setCell ⟨P,4,none⟩ (.slice ov' L'.length cv')).frozen? ⟨w.heap.size,3,none⟩=false:=Q03 rS 3
   have e4:(((((w5.setCell ⟨P,0,none⟩ (.int .i64 a')).setCell ⟨P,1,none⟩ (.int .i64 b')).setCell ⟨P,2,none⟩ (.int .i64 f')).setCell ⟨P,3,none⟩ (.int .i64 s')).setCell ⟨P,4,none⟩ (.slice ov' L'.length cv')).cell? ⟨w.heap.size,4,none⟩=some (.slice none 0 0):=Q01 rS 4 _ rfl
   have q4:(((((w5.setCell ⟨P,0,none⟩ (.int .i64 a')).setCell ⟨P,1,none⟩ (.int .i64 b')).setCell ⟨P,2,none⟩ (.int .i64 f')).setCell ⟨P,3,none⟩ (.int .i64 s')).setCell ⟨P,4,none⟩ (.slice ov' L'.length cv')).frozen? ⟨w.heap.size,4,none⟩=false:=Q03 rS 4
   have e5:(((((w5.setCell ⟨P,0,none⟩ (.int .i64 a')).setCell ⟨P,1,none⟩ (.int .i64 b')).setCell ⟨P,2,none⟩ (.int .i64 f')).setCell ⟨P,3,none⟩ (.int .i64 s')).setCell ⟨P,4,none⟩ (.slice ov' L'.length cv')).cell? ⟨w.heap.size,5,none⟩=some (.slice none 0 0):=Q01 rS 5 _ rfl
   have q5:(((((w5.setCell ⟨P,0,none⟩ (.int .i64 a')).setCell ⟨P,1,none⟩ (.int .i64 b')).setCell ⟨P,2,none⟩ (.int .i64 f')).setCell ⟨P,3,none⟩ (.int .i64 s')).setCell ⟨P,4,none⟩ (.slice ov' L'.length cv')).frozen? ⟨w.heap.size,5,none⟩=false:=Q03 rS 5
   have e6:(((((w5.setCell ⟨P,0,none⟩ (.int .i64 a')).setCell ⟨P,1,none⟩ (.int .i64 b')).setCell ⟨P,2,none⟩ (.int .i64 f')).setCell ⟨P,3,none⟩ (.int .i64 s')).setCell ⟨P,4,none⟩ (.slice ov' L'.length cv')).cell? ⟨w.heap.size,6,none⟩=some (.int .i64 0):=Q01 rS 6 _ rfl
   have q6:(((((w5.setCell ⟨P,0,none⟩ (.int .i64 a')).setCell ⟨P,1,none⟩ (.int .i64 b')).setCell ⟨P,2,none⟩ (.int .i64 f')).setCell ⟨P,3,none⟩ (.int .i64 s')).setCell ⟨P,4,none⟩ (.slice ov' L'.length cv')).frozen? ⟨w.heap.size,6,none⟩=false:=Q03 rS 6
   have e7:(((((w5.setCell ⟨P,0,none⟩ (.int .i64 a')).setCell ⟨P,1,none⟩ (.int .i64 b')).setCell ⟨P,2,none⟩ (.int .i64 f')).setCell ⟨P,3,none⟩ (.int .i64 s')).setCell ⟨P,4,none⟩ (.slice ov' L'.length cv')).cell? ⟨w.heap.size,7,none⟩=some (.int .i64 0):=Q01 rS 7 _ rfl
   have q7:(((((w5.setCell ⟨P,0,none⟩ (.int .i64 a')).setCell ⟨P,1,none⟩ (.int .i64 b')).setCell ⟨P,2,none⟩ (.int .i64 f')).setCell ⟨P,3,none⟩ (.int .i64 s')).setCell ⟨P,4,none⟩ (.slice ov' L'.length cv')).frozen? ⟨w.heap.size,7,none⟩=false:=Q03 rS 7
   have HD:=Q00 d54
   clear rS d54 b54
   go_wp2
   refine bodyPost_ret (v:=crr a' b' f' s' (.slice ov' L'.length cv') (.slice og g.length cg) pl st) (by simp [results,Try.results23,go_sem,e0,e1,e2,e3,e4,e5,e6,e7]) rfl ?_
   refine HD.out.finB hk hs0 hg0 a' b' f' s' pl st hLb' hLn' hg8 ?zb ?zr ?zq
   case zb=> exact (Q06 (Q06 (Q06 (Q06 (Q06 (Q06 (Q06 (Q06 (Below.refl w.heap.size (((((w5.setCell ⟨P,0,none⟩ (.int .i64 a')).setCell ⟨P,1,none⟩ (.int .i64 b')).setCell ⟨P,2,none⟩ (.int .i64 f')).setCell ⟨P,3,none⟩ (.int .i64 s')).setCell ⟨P,4,none⟩ (.slice ov' L'.length cv'))) 0 _) 1 _) 2 _) 3 _) 4 _) 5 _) 6 _) 7 _)
   case zr=> (repeat (refine ownsRow_setCell_below ?_ hs0 _));exact HD.out.row
   case zq=> (repeat (refine ownsRow_setCell_below ?_ hs0 _));exact HD.out.seg
  ·subst h
   have c5z:w4.cell? ⟨P,5,none⟩=some (.slice og g.length cg):=Q01 b4 5 _ rfl
   have cI:(w4.alloc (.cells #[.int .i64 (-1),.int .i64 0,.int .i64 (g.length:Int)] 3)).heap[w4.heap.size]? =some (.cells #[.int .i64 (-1),.int .i64 0,.int .i64 (g.length:Int)] 3 (0,0)):=World.alloc_heap_new w4 _
   have d5:=d4.alloc hk0 (.cells #[.int .i64 (-1),.int .i64 0,.int .i64 (g.length:Int)] 3)
   have b5:=Q1f b4 (.cells #[.int .i64 (-1),.int .i64 0,.int .i64 (g.length:Int)] 3)
   go_wp2_with fail
   refine (Q0r k w4.heap.size [(-1),0,(g.length:Int)] _ d5.cur (by simp) (by omega) (by simp) (by simp) (Q3s [(-1),0,(g.length:Int)] cI)).mono ?_
   rintro e w6 ⟨q6,hq6,rfl,hc6,hg6⟩
   have d6:=d5.call hg6 hc6 hk0
   have b6:=Q0H b5 hg6 hPk
   generalize ([(-1),0,(g.length:Int)]:List Int).getD q6 0=z at *
   clear d5 b5 d4 b4 hc6 hg6 cI
   have c6z:w6.cell? ⟨P,6,none⟩=some (.int .i64 pl):=Q01 b6 6 _ rfl
   have f6z:w6.frozen? ⟨P,6,none⟩=false:=Q03 b6 6
   obtain ⟨d7,b7⟩:=d6.set b6 hk0 hP0 6 (.int .i64 z)
   clear d6 b6
   have rS:=Q0H hR0 d7.gr hkR
   have y0:(w6.setCell ⟨P,6,none⟩ (.int .i64 z)).cell? ⟨P,0,none⟩=some (.int .i64 a):=Q01 b7 0 _ rfl
   have y1:(w6.setCell ⟨P,6,none⟩ (.int .i64 z)).cell? ⟨P,1,none⟩=some (.int .i64 b):=Q01 b7 1 _ rfl
   have y2:(w6.setCell ⟨P,6,none⟩ (.int .i64 z)).cell? ⟨P,2,none⟩=some (.int .i64 f):=Q01 b7 2 _ rfl
   have y3:(w6.setCell ⟨P,6,none⟩ (.int .i64 z)).cell? ⟨P,3,none⟩=some (.int .i64 s):=Q01 b7 3 _ rfl
   have y4:(w6.setCell ⟨P,6,none⟩ (.int .i64 z)).cell? ⟨P,4,none⟩=some (.slice ov L.length cv):=Q01 b7 4 _ rfl
   have y5:(w6.setCell ⟨P,6,none⟩ (.int .i64 z)).cell? ⟨P,5,none⟩=some (.slice og g.length cg):=Q01 b7 5 _ rfl
   have y6:(w6.setCell ⟨P,6,none⟩ (.int .i64 z)).cell? ⟨P,6,none⟩=some (.int .i64 z):=Q01 b7 6 _ rfl
   have y7:(w6.setCell ⟨P,6,none⟩ (.int .i64 z)).cell? ⟨P,7,none⟩=some (.int .i64 st):=Q01 b7 7 _ rfl
   have e0:(w6.setCell ⟨P,6,none⟩ (.int .i64 z)).cell? ⟨w.heap.size,0,none⟩=some (.int .i64 0):=Q01 rS 0 _ rfl
   have q0:(w6.setCell ⟨P,6,none⟩ (.int .i64 z)).frozen? ⟨w.heap.size,0,none⟩=false:=Q03 rS 0
   have e1:(w6.setCell ⟨P,6,none⟩ (.int .i64 z)).cell? ⟨w.heap.size,1,none⟩=some (.int .i64 0):=Q01 rS 1 _ rfl
   have q1:(w6.setCell ⟨P,6,none⟩ (.int .i64 z)).frozen? ⟨w.heap.size,1,none⟩=false:=Q03 rS 1
   have e2:(w6.setCell ⟨P,6,none⟩ (.int .i64 z)).cell? ⟨w.heap.size,2,none⟩=some (.int .i64 0):=Q01 rS 2 _ rfl
   have q2:(w6.setCell ⟨P,6,none⟩ (.int .i64 z)).frozen? ⟨w.heap.size,2,none⟩=false:=Q03 rS 2
   have e3:(w6.setCell ⟨P,6,none⟩ (.int .i64 z)).cell? ⟨w.heap.size,3,none⟩=some (.int .i64 0):=Q01 rS 3 _ rfl
   have q3:(w6.setCell ⟨P,6,none⟩ (.int .i64 z)).frozen? ⟨w.heap.size,3,none⟩=false:=Q03 rS 3
   have e4:(w6.setCell ⟨P,6,none⟩ (.int .i64 z)).cell? ⟨w.heap.size,4,none⟩=some (.slice none 0 0):=Q01 rS 4 _ rfl
   have q4:(w6.setCell ⟨P,6,none⟩ (.int .i64 z)).frozen? ⟨w.heap.size,4,none⟩=false:=Q03 rS 4
   have e5:(w6.setCell ⟨P,6,none⟩ (.int .i64 z)).cell? ⟨w.heap.size,5,none⟩=some (.slice none 0 0):=Q01 rS 5 _ rfl
   have q5:(w6.setCell ⟨P,6,none⟩ (.int .i64 z)).frozen? ⟨w.heap.size,5,none⟩=false:=Q03 rS 5
   have e6:(w6.setCell ⟨P,6,none⟩ (.int .i64 z)).cell? ⟨w.heap.size,6,none⟩=some (.int .i64 0):=Q01 rS 6 _ rfl
   have q6:(w6.setCell ⟨P,6,none⟩ (.int .i64 z)).frozen? ⟨w.heap.size,6,none⟩=false:=Q03 rS 6
   have e7:(w6.setCell ⟨P,6,none⟩ (.int .i64 z)).cell? ⟨w.heap.size,7,none⟩=some (.int .i64 0):=Q01 rS 7 _ rfl
   have q7:(w6.setCell ⟨P,6,none⟩ (.int .i64 z)).frozen? ⟨w.heap.size,7,none⟩=false:=Q03 rS 7
   have HD:=Q00 d7
   clear rS d7 b7
   go_wp2
   refine bodyPost_ret (v:=crr a b f s (.slice ov L.length cv) (.slice og g.length cg) z st) (by simp [results,Try.results23,go_sem,e0,e1,e2,e3,e4,e5,e6,e7]) rfl ?_
   refine HD.out.finB hk hs0 hg0 a b f s z st hLb hL2 hg8 ?zb ?zr ?zq
   case zb=> exact (Q06 (Q06 (Q06 (Q06 (Q06 (Q06 (Q06 (Q06 (Below.refl w.heap.size (w6.setCell ⟨P,6,none⟩ (.int .i64 z))) 0 _) 1 _) 2 _) 3 _) 4 _) 5 _) 6 _) 7 _)
   case zr=> (repeat (refine ownsRow_setCell_below ?_ hs0 _));exact HD.out.row
   case zq=> (repeat (refine ownsRow_setCell_below ?_ hs0 _));exact HD.out.seg
  ·subst h
   have cI:(w4.alloc (.cells #[.int .i64 (-1),.int .i64 0,.int .i64 5,.int .i64 6] 3)).heap[w4.heap.size]? =some (.cells #[.int .i64 (-1),.int .i64 0,.int .i64 5,.int .i64 6] 3 (0,0)):=World.alloc_heap_new w4 _
   have dI:=d4.alloc hk0 (.cells #[.int .i64 (-1),.int .i64 0,.int .i64 5,.int .i64 6] 3)
   have bI:=Q1f b4 (.cells #[.int .i64 (-1),.int .i64 0,.int .i64 5,.int .i64 6] 3)
   have c4z:w4.cell? ⟨P,5,none⟩=some (.slice og g.length cg):=Q01 b4 5 _ rfl
   have c4a:∀O,(w4.alloc O).cell? ⟨P,5,none⟩=some (.slice og g.length cg):=fun O=> Q01 (Q1f b4 O) 5 _ rfl
   go_wp2
   go_region_law (first|(refine Q16 Q8x rfl (.tmp 28) (.tmp 36) rfl w0.heap.size (.slice og g.length cg) g rfl (dF.alloc hk0 _).seg (some ⟨wF.heap.size,0,none⟩) 1 _ [(px,z - 1)] 1 rfl rfl (fun h=> by cases h) (Q72 wF px (z - 1)) (by simp;omega) (dF.alloc hk0 _).gr.size ?_;intro va wa hva hga _;obtain ⟨oa,ka,ea,_⟩:=(Q1S.2 hva).open;obtain ⟨na,hna⟩:∃n,(g++[((px:Int),z - 1)]).length=n:=⟨_,rfl⟩;have HNA:=Q00 hna;rw [hna] at ea;rw [ea] at hva ⊢;clear hna;obtain ⟨da,ba⟩:=(dF.alloc hk0 _).app (Q1f bF _) hk0 hva hga;have ca:wa.cell? ⟨P,5,none⟩=some (.slice og g.length cg):=Q01 ba 5 _ rfl;have fa:wa.frozen? ⟨P,5,none⟩=false:=Q03 ba 5)|(go_simp;go_at_call 45;refine (Q0g k 4 _ (dP).cur (by omega) (by omega)).mono ?_;rintro e wF ⟨z,rfl,hz0,hz1,hcB,hgB⟩;have hzw:=Q3G z hz0 hz1;have hzw2:=Q2Y z hz0 hz1;have dF:=(dP).call hgB hcB hk0;have bF:=Q0H (W:=wP) (bP) hgB hPk;have cwF:wF.cell? ⟨P,5,none⟩=some (.slice og g.length cg):=Q01 bF 5 _ rfl;have cwFa:∀O,(wF.alloc O).cell? ⟨P,5,none⟩=some (.slice og g.length cg):=(fun O=> Q01 (Q1f bF O) 5 _ rfl);dsimp only)|(go_simp;go_at_call 25;refine (Q0r k (w4.heap.size) [-1,0,5,6] _ (dC).cur ?_ (by omega) (by simp) (by simp) (Q3s [-1,0,5,6] (iC))).mono ?_;(focus (first|(simp;done)|(simp;omega)|omega));rintro e wF ⟨q6,hq6,rfl,hcP,hgP⟩;have dF:=(dC).call hgP hcP hk0;have bF:=Q0H (W:=wC) (bC) hgP hPk;generalize ([-1,0,5,6]:List Int).getD q6 0=px at *;have cwF:wF.cell? ⟨P,5,none⟩=some (.slice og g.length cg):=Q01 bF 5 _ rfl;have cwFa:∀O,(wF.alloc O).cell? ⟨P,5,none⟩=some (.slice og g.length cg):=(fun O=> Q01 (Q1f bF O) 5 _ rfl);dsimp only)|(go_simp;go_at_call 25;refine (Q0r k (wB.heap.size) [-1,0,5,6] _ (dB.alloc hk0 (.cells #[.int .i64 (-1),.int .i64 0,.int .i64 5,.int .i64 6] 3)).cur ?_ (by omega) (by simp) (by simp) (Q3s [-1,0,5,6] (World.alloc_heap_new wB _))).mono ?_;(focus (first|(simp;done)|(simp;omega)|omega));rintro e wF ⟨q6,hq6,rfl,hcP,hgP⟩;have dF:=(dB.alloc hk0 (.cells #[.int .i64 (-1),.int .i64 0,.int .i64 5,.int .i64 6] 3)).call hgP hcP hk0;have bF:=Q0H (W:=wB.alloc (.cells #[.int .i64 (-1),.int .i64 0,.int .i64 5,.int .i64 6] 3)) (Q1f bB (.cells #[.int .i64 (-1),.int .i64 0,.int .i64 5,.int .i64 6] 3)) hgP hPk;generalize ([-1,0,5,6]:List Int).getD q6 0=px at *;have cwF:wF.cell? ⟨P,5,none⟩=some (.slice og g.length cg):=Q01 bF 5 _ rfl;have cwFa:∀O,(wF.alloc O).cell? ⟨P,5,none⟩=some (.slice og g.length cg):=(fun O=> Q01 (Q1f bF O) 5 _ rfl);dsimp only)|(go_simp;go_at_call 25;refine (Q0r k (w4.heap.size) [-1,0,5,6] _ (dI.drew).cur ?_ (by omega) (by simp) (by simp) (Q3s [-1,0,5,6] (cI))).mono ?_;(focus (first|(simp;done)|(simp;omega)|omega));rintro e wP ⟨q6,hq6,rfl,hcP,hgP⟩;have dP:=(dI.drew).call hgP hcP hk0;have bP:=Q0H (W:=(w4.alloc (.cells #[.int .i64 (-1),.int .i64 0,.int .i64 5,.int .i64 6] 3)).drew) (bI) hgP hPk;generalize ([-1,0,5,6]:List Int).getD q6 0=px at *;have cwP:wP.cell? ⟨P,5,none⟩=some (.slice og g.length cg):=Q01 bP 5 _ rfl;have cwPa:∀O,(wP.alloc O).cell? ⟨P,5,none⟩=some (.slice og g.length cg):=(fun O=> Q01 (Q1f bP O) 5 _ rfl);dsimp only)|(go_simp;go_at_call 45;refine (Q0g k 4 _ (dI.drew).cur (by omega) (by omega)).mono ?_;rintro e wC ⟨z,rfl,hz0,hz1,hcB,hgB⟩;have hzw:=Q3G z hz0 hz1;have hzw2:=Q2Y z hz0 hz1;have dC:=(dI.drew).call hgB hcB hk0;have bC:=Q0H (W:=(w4.alloc (.cells #[.int .i64 (-1),.int .i64 0,.int .i64 5,.int .i64 6] 3)).drew) (bI) hgB hPk;have cwC:wC.cell? ⟨P,5,none⟩=some (.slice og g.length cg):=Q01 bC 5 _ rfl;have cwCa:∀O,(wC.alloc O).cell? ⟨P,5,none⟩=some (.slice og g.length cg):=(fun O=> Q01 (Q1f bC O) 5 _ rfl);have iC:=Q0H (W:=(w4.alloc (.cells #[.int .i64 (-1),.int .i64 0,.int .i64 5,.int .i64 6] 3)).drew) cI hgB (by omega);have lC:w4.heap.size < wC.heap.size:=Q4I iC;dsimp only)|(go_simp;go_at_call 45;refine (Q0g k 4 _ (d4.drew).cur (by omega) (by omega)).mono ?_;rintro e wB ⟨z,rfl,hz0,hz1,hcB,hgB⟩;have hzw:=Q3G z hz0 hz1;have hzw2:=Q2Y z hz0 hz1;have dB:=(d4.drew).call hgB hcB hk0;have bB:=Q0H (W:=w4.drew) (b4) hgB hPk;have cwB:wB.cell? ⟨P,5,none⟩=some (.slice og g.length cg):=Q01 bB 5 _ rfl;have cwBa:∀O,(wB.alloc O).cell? ⟨P,5,none⟩=some (.slice og g.length cg):=(fun O=> Q01 (Q1f bB O) 5 _ rfl);dsimp only))
   all_goals (
    have HL2:Hid ((g++[((px:Int),z - 1)]).length≤8):=by unfold Hid;rw [List.length_append];simp only [List.length_cons,List.length_nil];omega
    obtain ⟨db,bb⟩:=da.set ba hk0 hP0 5 (.slice oa na ka)
    clear hva hga da ba dF bF cI dI bI c4a c4z
    have rS:=Q0H hR0 db.gr hkR
    have y0:(wa.setCell ⟨P,5,none⟩ (.slice oa na ka)).cell? ⟨P,0,none⟩=some (.int .i64 a):=Q01 bb 0 _ rfl
    have y1:(wa.setCell ⟨P,5,none⟩ (.slice oa na ka)).cell? ⟨P,1,none⟩=some (.int .i64 b):=Q01 bb 1 _ rfl
    have y2:(wa.setCell ⟨P,5,none⟩ (.slice oa na ka)).cell? ⟨P,2,none⟩=some (.int .i64 f):=Q01 bb 2 _ rfl
    have y3:(wa.setCell ⟨P,5,none⟩ (.slice oa na ka)).cell? ⟨P,3,none⟩=some (.int .i64 s):=Q01 bb 3 _ rfl
    have y4:(wa.setCell ⟨P,5,none⟩ (.slice oa na ka)).cell? ⟨P,4,none⟩=some (.slice ov L.length cv):=Q01 bb 4 _ rfl
    have y5:(wa.setCell ⟨P,5,none⟩ (.slice oa na ka)).cell? ⟨P,5,none⟩=some (.slice oa na ka):=Q01 bb 5 _ rfl
    have y6:(wa.setCell ⟨P,5,none⟩ (.slice oa na ka)).cell? ⟨P,6,none⟩=some (.int .i64 pl):=Q01 bb 6 _ rfl
    have y7:(wa.setCell ⟨P,5,none⟩ (.slice oa na ka)).cell? ⟨P,7,none⟩=some (.int .i64 st):=Q01 bb 7 _ rfl
    have e0:(wa.setCell ⟨P,5,none⟩ (.slice oa na ka)).cell? ⟨w.heap.size,0,none⟩=some (.int .i64 0):=Q01 rS 0 _ rfl
    have q0:(wa.setCell ⟨P,5,none⟩ (.slice oa na ka)).frozen? ⟨w.heap.size,0,none⟩=false:=Q03 rS 0
    have e1:(wa.setCell ⟨P,5,none⟩ (.slice oa na ka)).cell? ⟨w.heap.size,1,none⟩=some (.int .i64 0):=Q01 rS 1 _ rfl
    have q1:(wa.setCell ⟨P,5,none⟩ (.slice oa na ka)).frozen? ⟨w.heap.size,1,none⟩=false:=Q03 rS 1
    have e2:(wa.setCell ⟨P,5,none⟩ (.slice oa na ka)).cell? ⟨w.heap.size,2,none⟩=some (.int .i64 0):=Q01 rS 2 _ rfl
    have q2:(wa.setCell ⟨P,5,none⟩ (.slice oa na ka)).frozen? ⟨w.heap.size,2,none⟩=false:=Q03 rS 2
    have e3:(wa.setCell ⟨P,5,none⟩ (.slice oa na ka)).cell? ⟨w.heap.size,3,none⟩=some (.int .i64 0):=Q01 rS 3 _ rfl
    have q3:(wa.setCell ⟨P,5,none⟩ (.slice oa na ka)).frozen? ⟨w.heap.size,3,none⟩=false:=Q03 rS 3
    have e4:(wa.setCell ⟨P,5,none⟩ (.slice oa na ka)).cell? ⟨w.heap.size,4,none⟩=some (.slice none 0 0):=Q01 rS 4 _ rfl
    have q4:(wa.setCell ⟨P,5,none⟩ (.slice oa na ka)).frozen? ⟨w.heap.size,4,none⟩=false:=Q03 rS 4
    have e5:(wa.setCell ⟨P,5,none⟩ (.slice oa na ka)).cell? ⟨w.heap.size,5,none⟩=some (.slice none 0 0):=Q01 rS 5 _ rfl
    have q5:(wa.setCell ⟨P,5,none⟩ (.slice oa na ka)).frozen? ⟨w.heap.size,5,none⟩=false:=Q03 rS 5
    have e6:(wa.setCell ⟨P,5,none⟩ (.slice oa na ka)).cell? ⟨w.heap.size,6,none⟩=some (.int .i64 0):=Q01 rS 6 _ rfl
    have q6:(wa.setCell ⟨P,5,none⟩ (.slice oa na ka)).frozen? ⟨w.heap.size,6,none⟩=false:=Q03 rS 6
    have e7:(wa.setCell ⟨P,5,none⟩ (.slice oa na ka)).cell? ⟨w.heap.size,7,none⟩=some (.int .i64 0):=Q01 rS 7 _ rfl
    have q7:(wa.setCell ⟨P,5,none⟩ (.slice oa na ka)).frozen? ⟨w.heap.size,7,none⟩=false:=Q03 rS 7
    have HD:=Q00 db
    clear rS db bb
    go_wp2
    refine bodyPost_ret (v:=crr a b f s (.slice ov L.length cv) (.slice oa na ka) pl st) (by simp [results,Try.results23,go_sem,e0,e1,e2,e3,e4,e5,e6,e7]) rfl ?_
    refine HD.out.finB hk hs0 hg0 a b f s pl st hLb hL2 HL2.out ?zb ?zr ?zq
    case zb=> exact (Q06 (Q06 (Q06 (Q06 (Q06 (Q06 (Q06 (Q06 (Below.refl w.heap.size (wa.setCell ⟨P,5,none⟩ (.slice oa na ka))) 0 _) 1 _) 2 _) 3 _) 4 _) 5 _) 6 _) 7 _)
    case zr=> (repeat (refine ownsRow_setCell_below ?_ hs0 _));exact HD.out.row
    case zq=> (repeat (refine ownsRow_setCell_below ?_ hs0 _));exact HD.out.seg)
  ·subst h
   have cI:(w4.alloc (.cells #[.int .i64 (-1),.int .i64 100000,.int .i64 100001] 3)).heap[w4.heap.size]? =some (.cells #[.int .i64 (-1),.int .i64 100000,.int .i64 100001] 3 (0,0)):=World.alloc_heap_new w4 _
   have d5:=d4.alloc hk0 (.cells #[.int .i64 (-1),.int .i64 100000,.int .i64 100001] 3)
   have b5:=Q1f b4 (.cells #[.int .i64 (-1),.int .i64 100000,.int .i64 100001] 3)
   go_wp2_with fail
   refine (Q0r k w4.heap.size [(-1),100000,100001] _ d5.cur (by simp) (by omega) (by simp) (by simp) (Q3s [(-1),100000,100001] cI)).mono ?_
   rintro e w6 ⟨q6,hq6,rfl,hc6,hg6⟩
   have d6:=d5.call hg6 hc6 hk0
   have b6:=Q0H b5 hg6 hPk
   generalize ([(-1),100000,100001]:List Int).getD q6 0=z at *
   clear d5 b5 d4 b4 hc6 hg6 cI
   have c6z:w6.cell? ⟨P,7,none⟩=some (.int .i64 st):=Q01 b6 7 _ rfl
   have f6z:w6.frozen? ⟨P,7,none⟩=false:=Q03 b6 7
   obtain ⟨d7,b7⟩:=d6.set b6 hk0 hP0 7 (.int .i64 z)
   clear d6 b6
   have rS:=Q0H hR0 d7.gr hkR
   have y0:(w6.setCell ⟨P,7,none⟩ (.int .i64 z)).cell? ⟨P,0,none⟩=some (.int .i64 a):=Q01 b7 0 _ rfl
   have y1:(w6.setCell ⟨P,7,none⟩ (.int .i64 z)).cell? ⟨P,1,none⟩=some (.int .i64 b):=Q01 b7 1 _ rfl
   have y2:(w6.setCell ⟨P,7,none⟩ (.int .i64 z)).cell? ⟨P,2,none⟩=some (.int .i64 f):=Q01 b7 2 _ rfl
   have y3:(w6.setCell ⟨P,7,none⟩ (.int .i64 z)).cell? ⟨P,3,none⟩=some (.int .i64 s):=Q01 b7 3 _ rfl
   have y4:(w6.setCell ⟨P,7,none⟩ (.int .i64 z)).cell? ⟨P,4,none⟩=some (.slice ov L.length cv):=Q01 b7 4 _ rfl
   have y5:(w6.setCell ⟨P,7,none⟩ (.int .i64 z)).cell? ⟨P,5,none⟩=some (.slice og g.length cg):=Q01 b7 5 _ rfl
   have y6:(w6.setCell ⟨P,7,none⟩ (.int .i64 z)).cell? ⟨P,6,none⟩=some (.int .i64 pl):=Q01 b7 6 _ rfl
   have y7:(w6.setCell ⟨P,7,none⟩ (.int .i64 z)).cell? ⟨P,7,none⟩=some (.int .i64 z):=Q01 b7 7 _ rfl
   have e0:(w6.setCell ⟨P,7,none⟩ (.int .i64 z)).cell? ⟨w.heap.size,0,none⟩=some (.int .i64 0):=Q01 rS 0 _ rfl
   have q0:(w6.setCell ⟨P,7,none⟩ (.int .i64 z)).frozen? ⟨w.heap.size,0,none⟩=false:=Q03 rS 0
   have e1:(w6.setCell ⟨P,7,none⟩ (.int .i64 z)).cell? ⟨w.heap.size,1,none⟩=some (.int .i64 0):=Q01 rS 1 _ rfl
   have q1:(w6.setCell ⟨P,7,none⟩ (.int .i64 z)).frozen? ⟨w.heap.size,1,none⟩=false:=Q03 rS 1
   have e2:(w6.setCell ⟨P,7,none⟩ (.int .i64 z)).cell? ⟨w.heap.size,2,none⟩=some (.int .i64 0):=Q01 rS 2 _ rfl
   have q2:(w6.setCell ⟨P,7,none⟩ (.int .i64 z)).frozen? ⟨w.heap.size,2,none⟩=false:=Q03 rS 2
   have e3:(w6.setCell ⟨P,7,none⟩ (.int .i64 z)).cell? ⟨w.heap.size,3,none⟩=some (.int .i64 0):=Q01 rS 3 _ rfl
   have q3:(w6.setCell ⟨P,7,none⟩ (.int .i64 z)).frozen? ⟨w.heap.size,3,none⟩=false:=Q03 rS 3
   have e4:(w6.setCell ⟨P,7,none⟩ (.int .i64 z)).cell? ⟨w.heap.size,4,none⟩=some (.slice none 0 0):=Q01 rS 4 _ rfl
   have q4:(w6.setCell ⟨P,7,none⟩ (.int .i64 z)).frozen? ⟨w.heap.size,4,none⟩=false:=Q03 rS 4
   have e5:(w6.setCell ⟨P,7,none⟩ (.int .i64 z)).cell? ⟨w.heap.size,5,none⟩=some (.slice none 0 0):=Q01 rS 5 _ rfl
   have q5:(w6.setCell ⟨P,7,none⟩ (.int .i64 z)).frozen? ⟨w.heap.size,5,none⟩=false:=Q03 rS 5
   have e6:(w6.setCell ⟨P,7,none⟩ (.int .i64 z)).cell? ⟨w.heap.size,6,none⟩=some (.int .i64 0):=Q01 rS 6 _ rfl
   have q6:(w6.setCell ⟨P,7,none⟩ (.int .i64 z)).frozen? ⟨w.heap.size,6,none⟩=false:=Q03 rS 6
   have e7:(w6.setCell ⟨P,7,none⟩ (.int .i64 z)).cell? ⟨w.heap.size,7,none⟩=some (.int .i64 0):=Q01 rS 7 _ rfl
   have q7:(w6.setCell ⟨P,7,none⟩ (.int .i64 z)).frozen? ⟨w.heap.size,7,none⟩=false:=Q03 rS 7
   have HD:=Q00 d7
   clear rS d7 b7
   go_wp2
   refine bodyPost_ret (v:=crr a b f s (.slice ov L.length cv) (.slice og g.length cg) pl z) (by simp [results,Try.results23,go_sem,e0,e1,e2,e3,e4,e5,e6,e7]) rfl ?_
   refine HD.out.finB hk hs0 hg0 a b f s pl z hLb hL2 hg8 ?zb ?zr ?zq
   case zb=> exact (Q06 (Q06 (Q06 (Q06 (Q06 (Q06 (Q06 (Q06 (Below.refl w.heap.size (w6.setCell ⟨P,7,none⟩ (.int .i64 z))) 0 _) 1 _) 2 _) 3 _) 4 _) 5 _) 6 _) 7 _)
   case zr=> (repeat (refine ownsRow_setCell_below ?_ hs0 _));exact HD.out.row
   case zq=> (repeat (refine ownsRow_setCell_below ?_ hs0 _));exact HD.out.seg
  ·subst h
   have c5z:w4.cell? ⟨P,5,none⟩=some (.slice og g.length cg):=Q01 b4 5 _ rfl
   have f5z:w4.frozen? ⟨P,5,none⟩=false:=Q03 b4 5
   obtain ⟨d7,b7⟩:=d4.noseg.set b4 hk0 hP0 5 (.slice none 0 0)
   have hg0':([]:List (Int × Int)).length≤8:=by decide
   clear d4 b4
   have rS:=Q0H hR0 d7.gr hkR
   have y0:(w4.setCell ⟨P,5,none⟩ (.slice none 0 0)).cell? ⟨P,0,none⟩=some (.int .i64 a):=Q01 b7 0 _ rfl
   have y1:(w4.setCell ⟨P,5,none⟩ (.slice none 0 0)).cell? ⟨P,1,none⟩=some (.int .i64 b):=Q01 b7 1 _ rfl
   have y2:(w4.setCell ⟨P,5,none⟩ (.slice none 0 0)).cell? ⟨P,2,none⟩=some (.int .i64 f):=Q01 b7 2 _ rfl
   have y3:(w4.setCell ⟨P,5,none⟩ (.slice none 0 0)).cell? ⟨P,3,none⟩=some (.int .i64 s):=Q01 b7 3 _ rfl
   have y4:(w4.setCell ⟨P,5,none⟩ (.slice none 0 0)).cell? ⟨P,4,none⟩=some (.slice ov L.length cv):=Q01 b7 4 _ rfl
   have y5:(w4.setCell ⟨P,5,none⟩ (.slice none 0 0)).cell? ⟨P,5,none⟩=some (.slice none 0 0):=Q01 b7 5 _ rfl
   have y6:(w4.setCell ⟨P,5,none⟩ (.slice none 0 0)).cell? ⟨P,6,none⟩=some (.int .i64 pl):=Q01 b7 6 _ rfl
   have y7:(w4.setCell ⟨P,5,none⟩ (.slice none 0 0)).cell? ⟨P,7,none⟩=some (.int .i64 st):=Q01 b7 7 _ rfl
   have e0:(w4.setCell ⟨P,5,none⟩ (.slice none 0 0)).cell? ⟨w.heap.size,0,none⟩=some (.int .i64 0):=Q01 rS 0 _ rfl
   have q0:(w4.setCell ⟨P,5,none⟩ (.slice none 0 0)).frozen? ⟨w.heap.size,0,none⟩=false:=Q03 rS 0
   have e1:(w4.setCell ⟨P,5,none⟩ (.slice none 0 0)).cell? ⟨w.heap.size,1,none⟩=some (.int .i64 0):=Q01 rS 1 _ rfl
   have q1:(w4.setCell ⟨P,5,none⟩ (.slice none 0 0)).frozen? ⟨w.heap.size,1,none⟩=false:=Q03 rS 1
   have e2:(w4.setCell ⟨P,5,none⟩ (.slice none 0 0)).cell? ⟨w.heap.size,2,none⟩=some (.int .i64 0):=Q01 rS 2 _ rfl
   have q2:(w4.setCell ⟨P,5,none⟩ (.slice none 0 0)).frozen? ⟨w.heap.size,2,none⟩=false:=Q03 rS 2
   have e3:(w4.setCell ⟨P,5,none⟩ (.slice none 0 0)).cell? ⟨w.heap.size,3,none⟩=some (.int .i64 0):=Q01 rS 3 _ rfl
   have q3:(w4.setCell ⟨P,5,none⟩ (.slice none 0 0)).frozen? ⟨w.heap.size,3,none⟩=false:=Q03 rS 3
   have e4:(w4.setCell ⟨P,5,none⟩ (.slice none 0 0)).cell? ⟨w.heap.size,4,none⟩=some (.slice none 0 0):=Q01 rS 4 _ rfl
   have q4:(w4.setCell ⟨P,5,none⟩ (.slice none 0 0)).frozen? ⟨w.heap.size,4,none⟩=false:=Q03 rS 4
   have e5:(w4.setCell ⟨P,5,none⟩ (.slice none 0 0)).cell? ⟨w.heap.size,5,none⟩=some (.slice none 0 0):=Q01 rS 5 _ rfl
   have q5:(w4.setCell ⟨P,5,none⟩ (.slice none 0 0)).frozen? ⟨w.heap.size,5,none⟩=false:=Q03 rS 5
   have e6:(w4.setCell ⟨P,5,none⟩ (.slice none 0 0)).cell? ⟨w.heap.size,6,none⟩=some (.int .i64 0):=Q01 rS 6 _ rfl
   have q6:(w4.setCell ⟨P,5,none⟩ (.slice none 0 0)).frozen? ⟨w.heap.size,6,none⟩=false:=Q03 rS 6
   have e7:(w4.setCell ⟨P,5,none⟩ (.slice none 0 0)).cell? ⟨w.heap.size,7,none⟩=some (.int .i64 0):=Q01 rS 7 _ rfl
   have q7:(w4.setCell ⟨P,5,none⟩ (.slice none 0 0)).frozen? ⟨w.heap.size,7,none⟩=false:=Q03 rS 7
   have HD:=Q00 d7
   clear rS d7 b7
   go_wp2
   refine bodyPost_ret (v:=crr a b f s (.slice ov L.length cv) (.slice none 0 0) pl st) (by simp [results,Try.results23,go_sem,e0,e1,e2,e3,e4,e5,e6,e7]) rfl ?_
   refine HD.out.finB hk hs0 hg0 a b f s pl st hLb hL2 hg0' ?zb ?zr ?zq
   case zb=> exact (Q06 (Q06 (Q06 (Q06 (Q06 (Q06 (Q06 (Q06 (Below.refl w.heap.size (w4.setCell ⟨P,5,none⟩ (.slice none 0 0))) 0 _) 1 _) 2 _) 3 _) 4 _) 5 _) 6 _) 7 _)
   case zr=> (repeat (refine ownsRow_setCell_below ?_ hs0 _));exact HD.out.row
   case zq=> (repeat (refine ownsRow_setCell_below ?_ hs0 _));exact HD.out.seg
end Go.Proofs.Ytljogkoaaidlcaa
