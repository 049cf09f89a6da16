/- Several texts in one: SL4, ShP, ShBal, SL4b, SBSame2, SJS, SRep, SJCut, SNote. -/
import Derived.Deep.CutRange
import Derived.Test.YtgplppfbinfelaaGreatQOldest35
namespace Go.Proofs.YtgplppfbinfelaaGreat
open Go.ChangeShapes Go.WideShapes Go.ChangeAt Go.RowKit Go.Joins
set_option linter.unusedVariables false
set_option linter.unusedSimpArgs false
set_option maxRecDepth 100000
set_option maxHeartbeats 40000000
theorem own_capO {w:World} {base:Nat} {v:Value} {l:List Bk} (h:ownK w base v l) {o:Option Addr} {n c:Nat} (e:v=.slice o n c):o=none→c=0:=fun e'=> (InRow.cap (InRow.of h)) n c (by rw [e,e'])
theorem bC {C b j:Nat} {w w':World} {u:Value} (h:Below C w w') (hc:w.cell? ⟨b,j,none⟩=some u) (hz:b < C):w'.cell? ⟨b,j,none⟩=some u:=(h.cell (p:=⟨b,j,none⟩) hz).trans hc
theorem bF {C b j:Nat} {w w':World} (h:Below C w w') (hc:w.frozen? ⟨b,j,none⟩=false) (hz:b < C):w'.frozen? ⟨b,j,none⟩=false:=(h.frozen (p:=⟨b,j,none⟩) hz).trans hc
abbrev plv (k:Int) (vb vr:Value):Value:=.agg #[.int .i64 k,vb,vr]
theorem rd_oneK {w:World} {x y:Int} {z:Bool} {T:TypeId}:RdK (w.alloc (.cells #[.int .i64 x,.int .i64 y,.bool z] T)).heap.size (w.alloc (.cells #[.int .i64 x,.int .i64 y,.bool z] T)) (some ⟨w.heap.size,0,none⟩) [(x,y,z)]:=
 .inr ⟨w.heap.size,0,rfl,by simp,fun i hi j hj=> by
  have e1:i=0:=by simpa using hi
  subst e1
  match j,hj with
  |0,_=> simp [layK]
  |1,_=> simp [layK]
  |2,_=> simp [layK]⟩
theorem infoIntSS:(Tryz.prog.info? 228).map (fun i=> (i.zero,i.size,i.bytes))=some (some (.slice none 0 0),1,24):=by kernel_rfl
theorem appHT:AppOk layH 26 228:=⟨Tryz.underlying26,⟨_,_,infoIntSS,rfl,by decide⟩,by decide,fun a u hu=> by
 simp [layH] at hu;subst hu;rfl⟩
theorem own_box {w:World} {base s n:Nat} {e T:TypeId} {v:Value} {xs:List Value} {B:Nat} {c:Array Value} (h:w.ownsRow base e s v n xs) (hB:w.heap[B]? =some (.cells c T (0,0))) (he:e≠T):v.ownBlock=none∨v.ownBlock≠some B:=by
 rcases h.2 with ⟨h1,h2⟩|⟨g,cap,cur,h1,hb,hc,_⟩
 ·left;rw [h1];rfl
 ·right
  rw [h1]
  intro e'
  simp [Value.ownBlock] at e'
  subst e'
  rw [hc] at hB
  simp at hB
  exact he hB.2
theorem grown_set (w:World) (B j:Nat) (u:Value):w.grownBy (w.setCell ⟨B,j,none⟩ u) (some B):=
 ⟨rfl,rfl,rfl,by simp [World.setCell],fun k hk hne=> Below.heap_setCell w ⟨B,j,none⟩ u k (fun e=> hne (by rw [e]))⟩
theorem box_put {W:World} {B:Nat} {c:Array Value} {T:TypeId} (h:W.heap[B]? =some (.cells c T (0,0))) (j:Nat) (u:Value):(W.setCell ⟨B,j,none⟩ u).heap[B]? =some (.cells (c.setIfInBounds j u) T (0,0)):=by
 simp [World.setCell,Array.getElem?_modify,h]
theorem bx_cell {W:World} {B:Nat} {c:Array Value} {t:TypeId} (h:W.heap[B]? =some (.cells c t (0,0))) (j:Nat) (u:Value) (hj:c[j]? =some u):W.cell? ⟨B,j,none⟩=some u:=by
 simp [World.cell?,h,hj]
theorem bx_frozen {W:World} {B:Nat} {c:Array Value} {t:TypeId} (h:W.heap[B]? =some (.cells c t (0,0))) (j:Nat):W.frozen? ⟨B,j,none⟩=false:=by
 simp [World.frozen?,h]
structure St (W0 W:World) (lv:Value) (s:List Bk) (B:Nat) (x y:Int) (u:Bool):Prop where
 own:ownK W W0.heap.size lv s
 bel:Below W0.heap.size W0 W
 box:W.heap[B]? =some (.cells #[.int .i64 x,.int .i64 y,.bool u] 226 (0,0))
 ge:W0.heap.size≤B
 ne:∀b,lv.ownBlock=some b→b≠B
theorem St.start {W0 wr:World} {lv:Value} {s:List Bk} {x y:Int} {u:Bool} (ho:ownK wr W0.heap.size lv s) (hb:Below W0.heap.size W0 wr):St W0 (wr.alloc (.cells #[.int .i64 x,.int .i64 y,.bool u] 226)) lv s wr.heap.size x y u:=
 ⟨World.ownsRow.alloc ho _,hb.alloc hb.size _,World.alloc_heap_new wr _,hb.size,fun b e=> by have:=(ho.lt b e).2;omega⟩
theorem St.app {W0 W w5:World} {lv v5:Value} {s:List Bk} {B:Nat} {x y:Int} {u:Bool} {a:Bk} {A:Obj} (h:St W0 W lv s B x y u) (ho:ownK w5 W0.heap.size v5 (s++[a])) (hg:(W.alloc A).grownBy w5 lv.ownBlock) (hn:v5.ownBlock=lv.ownBlock∨v5.ownBlock=some (W.heap.size+1)):St W0 w5 v5 (s++[a]) B x y u:=by
 have hB:B < W.heap.size:=(Array.getElem?_eq_some_iff.1 h.box).1
 have hs:=h.bel.size
 refine ⟨ho,(h.bel.alloc hs A).grown hg (by simp;omega) (fun k e=> (h.own.lt k e).1), ?_,h.ge, ?_⟩
 ·rw [hg.block B (by simp;omega) (fun e=> h.ne B e.symm rfl),Below.heap_alloc _ _ _ hB]
  exact h.box
 ·intro b e
  rcases hn with hn|hn
  ·exact h.ne b (by rw [←hn,e])
  ·rw [hn] at e
   simp at e
   omega
theorem St.put1 {W0 W:World} {lv:Value} {s:List Bk} {B:Nat} {x y:Int} {u:Bool} (h:St W0 W lv s B x y u) (g:Int):St W0 (W.setCell ⟨B,1,none⟩ (.int .i64 g)) lv s B x g u:=
 ⟨World.ownsRow.kept h.own (grown_set W B 1 _) (by cases hob:lv.ownBlock with
  |none=> exact .inl rfl
  |some b=> exact .inr (fun e=> h.ne b hob (by injection e))),h.bel.setCell (p:=⟨B,1,none⟩) h.ge _,by rw [box_put h.box];rfl,h.ge,h.ne⟩
theorem St.put2 {W0 W:World} {lv:Value} {s:List Bk} {B:Nat} {x y:Int} {u:Bool} (h:St W0 W lv s B x y u) (d:Bool):St W0 (W.setCell ⟨B,2,none⟩ (.bool d)) lv s B x y d:=
 ⟨World.ownsRow.kept h.own (grown_set W B 2 _) (by cases hob:lv.ownBlock with
  |none=> exact .inl rfl
  |some b=> exact .inr (fun e=> h.ne b hob (by injection e))),h.bel.setCell (p:=⟨B,2,none⟩) h.ge _,by rw [box_put h.box];rfl,h.ge,h.ne⟩
def RingO (w:World) (base:Nat) (v:Value) (T:Nat→List Int) (hsR:List Hd):Prop:=∃o3 c3 hs3,ownL layH 228 w base v ((o3,8,c3)::hsR)∧ownL layH 60 w base (.slice o3 8 c3) hs3∧Tab T 8 w base hs3
theorem neP1:(228:TypeId)≠46:=by decide
theorem neP2:(60:TypeId)≠46:=by decide
theorem neP3:(3:TypeId)≠46:=by decide
theorem neP4:(226:TypeId)≠46:=by decide
theorem neT1:(60:TypeId)≠228:=by decide
theorem neT2:(3:TypeId)≠228:=by decide
theorem own_putB {w:World} {base s n:Nat} {e:TypeId} {v:Value} {xs:List Value} {B:Nat} {c:Array Value} (h:w.ownsRow base e s v n xs) (hB:w.heap[B]? =some (.cells c 46 (0,0))) (he:e≠46) (j:Nat) (u:Value):(w.setCell ⟨B,j,none⟩ u).ownsRow base e s v n xs:=
 World.ownsRow.kept h (grown_set w B j u) (own_box h hB he)
theorem own_low {w:World} {base s n:Nat} {e:TypeId} {v:Value} {xs:List Value} {B:Nat} (h:w.ownsRow base e s v n xs) (hB:B < base) (j:Nat) (u:Value):(w.setCell ⟨B,j,none⟩ u).ownsRow base e s v n xs:=
 World.ownsRow.kept h (grown_set w B j u) (by
  cases hob:v.ownBlock with
  |none=> exact .inl rfl
  |some b=> exact .inr (fun e=> by have:=(h.lt b hob).1;injection e with e;omega))
theorem RingO.put {w:World} {base:Nat} {v:Value} {T:Nat→List Int} {hsR:List Hd} {B:Nat} {c:Array Value} (h:RingO w base v T hsR) (hB:w.heap[B]? =some (.cells c 46 (0,0))) (j:Nat) (u:Value):RingO (w.setCell ⟨B,j,none⟩ u) base v T hsR:=by
 obtain ⟨o3,c3,hs3,h1,h2,h3⟩:=h
 exact ⟨o3,c3,hs3,own_putB h1 hB neP1 j u,own_putB h2 hB neP2 j u,h3.grown (grown_set w B j u) (fun i hi=> own_box (h3.row i hi) hB neP3)⟩
theorem RingO.low {w:World} {base:Nat} {v:Value} {T:Nat→List Int} {hsR:List Hd} {B:Nat} (h:RingO w base v T hsR) (hB:B < base) (j:Nat) (u:Value):RingO (w.setCell ⟨B,j,none⟩ u) base v T hsR:=by
 obtain ⟨o3,c3,hs3,h1,h2,h3⟩:=h
 refine ⟨o3,c3,hs3,own_low h1 hB j u,own_low h2 hB j u,h3.grown (grown_set w B j u) (fun i hi=> ?_)⟩
 cases hob:(hv hs3 i).ownBlock with
 |none=> exact .inl rfl
 |some b=> exact .inr (fun e=> by have:=((h3.row i hi).lt b hob).1;injection e with e;omega)
theorem RingO.alloc {w:World} {base:Nat} {v:Value} {T:Nat→List Int} {hsR:List Hd} (h:RingO w base v T hsR) (o:Obj):RingO (w.alloc o) base v T hsR:=by
 obtain ⟨o3,c3,hs3,h1,h2,h3⟩:=h
 exact ⟨o3,c3,hs3,World.ownsRow.alloc h1 o,World.ownsRow.alloc h2 o,h3.kept ((Below.refl _ _).alloc (Nat.le_refl _) _)⟩
theorem RingO.isSome {w:World} {base:Nat} {v:Value} {T:Nat→List Int} {hsR:List Hd} (h:RingO w base v T hsR):∃g c,v=.slice (some ⟨g,0,none⟩) (hsR.length+1) c:=by
 obtain ⟨o3,c3,hs3,h1,h2,h3⟩:=h
 obtain ⟨g,c,e⟩:=own_someH h1 (by simp)
 exact ⟨g,c,by rw [e];simp⟩
theorem one_own (w:World) (o:Option Addr) (n c:Nat) (T:TypeId):ownL layH T (w.alloc (.cells #[.slice o n c] T)) w.heap.size (.slice (some ⟨w.heap.size,0,none⟩) 1 1) [(o,n,c)]:=
 ⟨by simp [layH],.inr ⟨w.heap.size,1,#[.slice o n c],rfl,Nat.le_refl _,heap_alloc_new w _,by simp,by unfold maxLen;omega,by simp [layH],by simp [layH]⟩⟩
theorem ring_app {V x1:World} {base:Nat} {s v4:Value} {o3:Option Addr} {c3:Nat} {hs3 hsR:List Hd} {T:Nat→List Int} (hs:ownL layH 228 V base s [(o3,8,c3)]) (h2:ownL layH 60 V base (.slice o3 8 c3) hs3) (h3:Tab T 8 V base hs3) (ho:ownL layH 228 x1 base v4 ([(o3,8,c3)]++hsR)) (hg:V.grownBy x1 s.ownBlock):RingO x1 base v4 T hsR:=
 ⟨o3,c3,hs3,ho,World.ownsRow.kept h2 hg (own_apart h2 hs neT1),h3.other hs neT2 hg⟩
theorem Tab.mono {R:Nat→List Int} {k:Nat} {w:World} {base b2:Nat} {hs:List Hd} (h:Tab R k w base hs) (hb:b2≤base):Tab R k w b2 hs:=⟨h.len,fun i hi=> own_mono (h.row i hi) hb,h.apart⟩
abbrev setP (W:World) (B:Nat) (a b c:Value):World:=((W.setCell ⟨B,0,none⟩ a).setCell ⟨B,1,none⟩ b).setCell ⟨B,2,none⟩ c
theorem finP {cur W:World} {B:Nat} {key:Int} {v2 v4:Value} {T:Nat→List Int} {hsR:List Hd} {z0 z1 z2:Value} (hZ:W.heap[B]? =some (.cells #[z0,z1,z2] 46 (0,0))) (hx:Below cur.heap.size cur W) (hB:cur.heap.size≤B) (hr:RingO W cur.heap.size v4 T hsR):
  ∃B' v',Value.pointer (some ⟨B,0,none⟩)=.pointer (some ⟨B',0,none⟩)∧Hid ((setP W B (.int .i64 key) v2 v4).heap[B']? =some (.cells #[.int .i64 key,v2,v'] 46 (0,0)))∧Hid (Below cur.heap.size cur (setP W B (.int .i64 key) v2 v4))∧cur.heap.size≤B'∧B' < (setP W B (.int .i64 key) v2 v4).heap.size∧Hid (RingO (setP W B (.int .i64 key) v2 v4) cur.heap.size v' T hsR):=by
 have h1:=box_put hZ 0 (.int .i64 key)
 have h2:=box_put h1 1 v2
 have h3:=box_put h2 2 v4
 refine ⟨B,v4,rfl,h3,((hx.setCell (p:=⟨B,0,none⟩) hB _).setCell (p:=⟨B,1,none⟩) hB _).setCell (p:=⟨B,2,none⟩) hB _,hB,(Array.getElem?_eq_some_iff.1 h3).1,((hr.put hZ 0 _).put h1 1 _).put h2 2 _⟩
theorem finPn {cur W:World} {key:Int} {v2 v4:Value} {T:Nat→List Int} {hsR:List Hd} (hx:Below cur.heap.size cur W) (hr:RingO W cur.heap.size v4 T hsR):
  ∃B' v',Value.pointer (some ⟨W.heap.size,0,none⟩)=.pointer (some ⟨B',0,none⟩)∧Hid ((W.alloc (.cells #[.int .i64 key,v2,v4] 46)).heap[B']? =some (.cells #[.int .i64 key,v2,v'] 46 (0,0)))∧Hid (Below cur.heap.size cur (W.alloc (.cells #[.int .i64 key,v2,v4] 46)))∧cur.heap.size≤B'∧B' < (W.alloc (.cells #[.int .i64 key,v2,v4] 46)).heap.size∧Hid (RingO (W.alloc (.cells #[.int .i64 key,v2,v4] 46)) cur.heap.size v' T hsR):=
 ⟨W.heap.size,v4,rfl,World.alloc_heap_new W _,hx.alloc hx.size _,hx.size,by simp,hr.alloc _⟩
theorem box_newA {w new:World} {c:Array Value} {T:TypeId} (hb:Below ((w.alloc (.cells c T)).drew).heap.size (w.alloc (.cells c T)).drew new):new.heap[w.heap.size]? =some (.cells c T (0,0)):=by
 have h1:=hb.block w.heap.size (by simp)
 have h2:(w.alloc (.cells c T)).drew.heap[w.heap.size]? =(w.alloc (.cells c T)).heap[w.heap.size]? :=rfl
 exact h1.trans (h2.trans (World.alloc_heap_new w (.cells c T)))
theorem box_far {V x1:World} {B n:Nat} {c:Array Value} {T:TypeId} (hg:V.grownBy x1 (Value.slice (some ⟨n,0,none⟩) 1 1).ownBlock) (hB:V.heap[B]? =some (.cells c T (0,0))) (hne:B≠n):x1.heap[B]? =some (.cells c T (0,0)):=
 (hg.block B (Array.getElem?_eq_some_iff.1 hB).1 (by simp [Value.ownBlock];exact hne)).trans hB
theorem setP_cell {W:World} {B b j:Nat} {u x y z:Value} (h:W.cell? ⟨b,j,none⟩=some u) (hb:b < B):(setP W B x y z).cell? ⟨b,j,none⟩=some u:=
 (((((Below.refl B W).setCell (p:=⟨B,0,none⟩) (Nat.le_refl _) x).setCell (p:=⟨B,1,none⟩) (Nat.le_refl _) y).setCell (p:=⟨B,2,none⟩) (Nat.le_refl _) z).cell (p:=⟨b,j,none⟩) hb).trans h
theorem one_own1 (w:World) (ob:Obj) (o:Option Addr) (n c:Nat) (T:TypeId):ownL layH T ((w.alloc ob).alloc (.cells #[.slice o n c] T)) (w.heap.size+1) (.slice (some ⟨w.heap.size+1,0,none⟩) 1 1) [(o,n,c)]:=by
 have h:=one_own (w.alloc ob) o n c T
 rw [World.size_alloc] at h
 exact h
theorem box_old2 (w:World) (c:Array Value) (T:TypeId) (ob:Obj):((w.alloc (.cells c T)).alloc ob).heap[w.heap.size]? =some (.cells c T (0,0)):=(Below.heap_alloc _ _ _ (by simp)).trans (World.alloc_heap_new w _)
theorem box_new2 (w:World) (c:Array Value) (T:TypeId) (ob:Obj):((w.alloc ob).alloc (.cells c T)).heap[w.heap.size+1]? =some (.cells c T (0,0)):=by
 have h:=World.alloc_heap_new (w.alloc ob) (.cells c T)
 rw [World.size_alloc] at h
 exact h
theorem RingO.cap {w:World} {base n c:Nat} {g:Nat} {T:Nat→List Int} {hsR:List Hd} (h:RingO w base (.slice (some ⟨g,0,none⟩) n c) T hsR):n≤c:=by
 obtain ⟨o3,c3,hs3,h1,h2,h3⟩:=h
 rcases h1.2 with ⟨e,_⟩|⟨g',cap,cur,e,hb,hc,h4,h5,h6,h7⟩
 ·cases e
 ·injection e with e1 e2 e3
  rw [e2,e3]
  exact h4
theorem cell_far {w:World} {B b j q:Nat} {u:Value} (h:b≠B):(w.setCell ⟨B,q,none⟩ u).cell? ⟨b,j,none⟩=w.cell? ⟨b,j,none⟩:=by
 simp only [World.cell?,Below.heap_setCell w ⟨B,q,none⟩ u b h]
theorem frozen_far {w:World} {B b j q:Nat} {u:Value} (h:b≠B):(w.setCell ⟨B,q,none⟩ u).frozen? ⟨b,j,none⟩=w.frozen? ⟨b,j,none⟩:=by
 simp only [World.frozen?,Below.heap_setCell w ⟨B,q,none⟩ u b h]
theorem own_head3 {w:World} {base g n c:Nat} {e:TypeId} {hs:List Hd} (h:ownL layH e w base (.slice (some ⟨g,0,none⟩) n c) hs) (h3:3≤hs.length):ownL layH e w base (.slice (some ⟨g,0,none⟩) 3 c) (hs.take 3):=by
 have hn:n=hs.length:=by
  obtain ⟨o',c',e',_⟩:=ownL.open (L:=layH) h
  injection e' with _ e2 _
 subst hn
 exact own_prefix (L:=layH) h 3 h3
theorem RingO.mono {w:World} {base b2:Nat} {v:Value} {T:Nat→List Int} {hsR:List Hd} (h:RingO w base v T hsR) (hb:b2≤base):RingO w b2 v T hsR:=by
 obtain ⟨o3,c3,hs3,h1,h2,h3⟩:=h
 exact ⟨o3,c3,hs3,own_mono h1 hb,own_mono h2 hb,Tab.mono h3 hb⟩
def DoPost (key:Int) (m:List Bk) (hsR:List Hd) (w:World) (e:Ending) (w':World):Prop:=∃o2 c2 oR2 n2 cR2 o3 c3 hs3,e=.returned (.tuple #[plv key (.slice o2 m.length c2) (.slice oR2 n2 cR2),.bool true])∧n2=(((o3,8,c3)::hsR).take 3).length∧ownK w' w.heap.size (.slice o2 m.length c2) m∧ownL layH 228 w' w.heap.size (.slice oR2 n2 cR2) (((o3,8,c3)::hsR).take 3)∧ownL layH 60 w' w.heap.size (.slice o3 8 c3) hs3∧Tab (fun b=> pairI key b m) 8 w' w.heap.size hs3∧Below w.heap.size w w'
theorem find_no {l:List Bk} {i:Int} (h:thereB l i=false):findI l i= -1:=by unfold findI;rw [h];rfl
theorem find_yes {l:List Bk} {i:Int} (h:thereB l i=true):findI l i=(placeN l i:Int):=by unfold findI;rw [h];rfl
theorem l4do_add (key:Int) (o:Option Addr) (cap:Nat) (l:List Bk) (oR:Option Addr) (cR:Nat) (hsR:List Hd) (i g:Int) (m:List Bk) (w:World) (hk:keyB key=true) (hl:backsOkB l=true) (hc:cmdOkB 0 i g=true) (hm:doL l 0 i g=some m) (hlen:l.length≤100) (hR:RdK w.heap.size w o l) (hG:RdL layH w.heap.size w oR hsR) (hnR:oR=none→cR=0) (hR3:hsR.length≤3):
  Calls Tryz.prog 147 #[plv key (.slice o l.length cap) (.slice oR hsR.length cR),cmd 0 i g] w fun e w'=> DoPost key m hsR w e w':=by
 obtain ⟨W0,hW0⟩:∃W,(((w.alloc (.cells #[.int .i64 key,.slice o l.length cap,.slice oR hsR.length cR] 46)).alloc (.cells #[.int .i64 0,.int .i64 i,.int .i64 g] 221)).alloc (.cells #[.int .i64 0,.slice none 0 0,.slice none 0 0] 46))=W:=⟨_,rfl⟩
 have hb_W0:Below w.heap.size w W0:=by rw [←hW0];exact ((((Below.refl _ _).alloc (Nat.le_refl _) _).alloc (by simp <;> omega) _).alloc (by simp <;> omega) _)
 have HB:=hide hb_W0
 clear hb_W0
 have zz:w.heap.size < W0.heap.size:=by rw [←hW0];simp <;> omega
 have z0:W0.cell? ⟨w.heap.size,0,none⟩=some (.int .i64 key):=by rw [←hW0];simp [go_sem]
 have z1:W0.cell? ⟨w.heap.size,1,none⟩=some (.slice o l.length cap):=by rw [←hW0];simp [go_sem]
 have z2:W0.cell? ⟨w.heap.size,2,none⟩=some (.slice oR hsR.length cR):=by rw [←hW0];simp [go_sem]
 have zu:w.heap.size+1 < W0.heap.size:=by rw [←hW0];simp <;> omega
 have u0:W0.cell? ⟨w.heap.size+1,0,none⟩=some (.int .i64 0):=by rw [←hW0];simp [go_sem]
 have u1:W0.cell? ⟨w.heap.size+1,1,none⟩=some (.int .i64 i):=by rw [←hW0];simp [go_sem]
 have u2:W0.cell? ⟨w.heap.size+1,2,none⟩=some (.int .i64 g):=by rw [←hW0];simp [go_sem]
 have zr:w.heap.size+1+1 < W0.heap.size:=by rw [←hW0];simp
 have r0:W0.cell? ⟨w.heap.size+1+1,0,none⟩=some (.int .i64 0):=by rw [←hW0];simp [go_sem]
 have r1:W0.cell? ⟨w.heap.size+1+1,1,none⟩=some (.slice none 0 0):=by rw [←hW0];simp [go_sem]
 have r2:W0.cell? ⟨w.heap.size+1+1,2,none⟩=some (.slice none 0 0):=by rw [←hW0];simp [go_sem]
 have fr0:W0.frozen? ⟨w.heap.size+1+1,0,none⟩=false:=by rw [←hW0];simp [go_sem]
 have fr1:W0.frozen? ⟨w.heap.size+1+1,1,none⟩=false:=by rw [←hW0];simp [go_sem]
 have fr2:W0.frozen? ⟨w.heap.size+1+1,2,none⟩=false:=by rw [←hW0];simp [go_sem]
 have hzr0:=zr
 have HR:=hide hR
 have HG:=hide hG
 have hW0s:=HB.out.size
 have HF:=hide (l4find_any o cap l i W0 ((hR.kept HB.out (Nat.le_refl _)).le HB.out.size) (by omega) hl)
 have HEND:=hide (run_end hl hc hm)
 have hmok:=doL_ok hl hc hm
 have hmlen:=doL_len hm
 have hthere:thereB l i=false:=by rcases doL_some hm with ⟨h,_⟩|⟨_,h,_⟩|⟨_,h,_⟩|⟨_,h,_⟩ <;> first|exact h|(exact absurd h (by decide))|(exact absurd rfl h)
 rw [find_no hthere] at HF HEND
 clear hR hG hl hc
 have HPUT:=hide (fun t=> runM_put (l:=l) (k:=0) (i:=i) (g:=g) (fi:= -1) t)
 have Z0:=z0
 have Z1:=z1
 have Z2:=z2
 have ZZ:=zz
 have U0:=u0
 have U1:=u1
 have U2:=u2
 have ZU:=zu
 have Q0:=r0
 have Q1:=r1
 have Q2:=r2
 have ZQ:=zr
 have FQ0:=fr0
 have FQ1:=fr1
 have FQ2:=fr2
 go_enter Tryz.func147,Tryz.ntmps147
 go_wp2_with fail
 refine HF.out.mono ?_
 rintro e w9 ⟨rfl,rfl⟩
 go_wp2
 go_loopw [7,8,9] (fun lv pv tv wr=> ∃t:Nat,t≤l.length∧tv=.int .i64 (t:Int)∧pv=.bool (runM l 0 i g (-1) t).2∧Hid (ownK wr W0.heap.size lv (runM l 0 i g (-1) t).1)∧Hid (Below W0.heap.size W0 wr))
  (fun _ _ tv _=> l.length - (intOf tv).toNat)
 case atStart=> exact ⟨0,Nat.zero_le _,rfl,by simp [runM],World.ownsRow_nil _ _ _ _,Below.refl _ _⟩
 case round=>
  obtain ⟨t,htl,rfl,rfl,HO,HBR⟩:=hrel
  clear HF z0 z1 z2 u0 u1 u2 r0 r1 r2 fr0 fr1 fr2 zz zu zr hW0
  have HBB:Hid (Below w.heap.size w wr):=HB.out.trans (HBR.out.mono hW0s)
  by_cases hlt:t < l.length
  ·skip
   have hlt':(t:Int) < (l.length:Int):=by omega
   have ht0:(0:Int)≤(t:Int):=by omega
   rcases HR.out with hR|⟨b,off,rfl,hbl,hcell⟩
   ·subst hR;simp at hlt
   obtain ⟨c0,c1,c2⟩:=RdL.back (C:=w.heap.size) hcell t hlt
   replace c0:=(HBB.out.cell (p:=⟨b,off+t * 3,none⟩) hbl).trans c0
   replace c1:=(HBB.out.cell (p:=⟨b,off+t * 3+1,none⟩) hbl).trans c1
   replace c2:=(HBB.out.cell (p:=⟨b,off+t * 3+2,none⟩) hbl).trans c2
   have hrl:=runM_len l 0 i g (-1) t
   have HRS:=hide (show runM l 0 i g (-1) (t+1)=stepM 0 i g (-1) (runM l 0 i g (-1) t) t (l.getD t (0,0,false)) from rfl)
   have hput:=HPUT.out t
   obtain ⟨x,y,u,hxyu⟩:∃x y u,l.getD t (0,0,false)=(x,y,u):=⟨_,_,_,rfl⟩
   rw [hxyu] at c0 c1 c2 HRS
   dsimp only at c0 c1 c2
   clear hxyu hcell
   obtain ⟨s1,s2,hs12⟩:∃s1 s2,runM l 0 i g (-1) t=(s1,s2):=⟨_,_,rfl⟩
   rw [hs12] at HO HRS hrl hput ⊢
   dsimp only at HO hrl hput ⊢
   clear hs12 HEND HPUT
   have z1_wr:=bC HBR.out Z1 ZZ
   have hneg:((t:Int)== -1)=false:=beq_eq_false_iff_ne.2 (by omega)
   have hneg2:¬((t:Int)= -1):=by omega
   cases s2 with
   |true=>
    have HRS2:=HRS.out
    unfold stepM at HRS2
    simp only [hneg2,if_false,Bool.true_eq_false,false_and] at HRS2
    have HRN:=hide HRS2
    clear HRS HRS2
    (try have H1:=hide h1)
    (try have H3:=hide h3)
    (try clear h1 h3)
    (try clear h3)
    obtain ⟨W2,hW2⟩:∃W,wr.alloc (.cells #[.int .i64 x,.int .i64 y,.bool u] 226)=W:=⟨_,rfl⟩
    have HS2:Hid (St W0 W2 u7 s1 wr.heap.size x y u):=by rw [←hW2];exact St.start HO.out HBR.out
    have z1_W2:=bC HS2.out.bel Z1 ZZ
    have u0_W2:=bC HS2.out.bel U0 ZU
    have u1_W2:=bC HS2.out.bel U1 ZU
    have u2_W2:=bC HS2.out.bel U2 ZU
    have b0_W2:=bx_cell HS2.out.box 0 _ rfl
    have b1_W2:=bx_cell HS2.out.box 1 _ rfl
    have b2_W2:=bx_cell HS2.out.box 2 _ rfl
    have fb0_W2:=bx_frozen HS2.out.box 0
    have fb1_W2:=bx_frozen HS2.out.box 1
    have fb2_W2:=bx_frozen HS2.out.box 2
    go_wp2_with (at_builtin;refine wpList_append_lay appK0 rfl (.tmp 69) (.tmp 71) rfl W0.heap.size _ _ rfl (World.ownsRow.alloc HS2.out.own (.cells #[.int .i64 x,.int .i64 y,.bool u] 226)) (some ⟨W2.heap.size,0,none⟩) 1 (W2.alloc (.cells #[.int .i64 x,.int .i64 y,.bool u] 226)).heap.size [(x,y,u)] 1 rfl rfl (fun h=> by cases h) rd_oneK (by simp;omega) (by have:=HS2.out.bel.size;simp;omega) ?_)
    intro v6 w6 ho5 hg5 hn5
    have HSL:=hide (HS2.out.app ho5 hg5 hn5)
    clear ho5 hg5 hn5
    go_wp2
    go_roundw
    case rel=> exact ⟨t+1,by omega,by go_num,by rw [HRN.out],by rw [HRN.out];exact HSL.out.own,HSL.out.bel⟩
    case measure=> simp [intOf];omega
   |false=>
    by_cases hgt:i < x
    ·skip
     have HRS2:=HRS.out
     unfold stepM at HRS2
     simp only [hneg2,if_false,hgt,and_self,if_true] at HRS2
     have HRN:=hide HRS2
     clear HRS HRS2
     (try have H1:=hide h1)
     (try have H3:=hide h3)
     (try clear h1 h3)
     (try clear h3)
     obtain ⟨W2,hW2⟩:∃W,wr.alloc (.cells #[.int .i64 x,.int .i64 y,.bool u] 226)=W:=⟨_,rfl⟩
     have HS2:Hid (St W0 W2 u7 s1 wr.heap.size x y u):=by rw [←hW2];exact St.start HO.out HBR.out
     have z1_W2:=bC HS2.out.bel Z1 ZZ
     have u0_W2:=bC HS2.out.bel U0 ZU
     have u1_W2:=bC HS2.out.bel U1 ZU
     have u2_W2:=bC HS2.out.bel U2 ZU
     have b0_W2:=bx_cell HS2.out.box 0 _ rfl
     have b1_W2:=bx_cell HS2.out.box 1 _ rfl
     have b2_W2:=bx_cell HS2.out.box 2 _ rfl
     have fb0_W2:=bx_frozen HS2.out.box 0
     have fb1_W2:=bx_frozen HS2.out.box 1
     have fb2_W2:=bx_frozen HS2.out.box 2
     go_wp2_with (at_builtin;refine wpList_append_lay appK0 rfl (.tmp 48) (.tmp 54) rfl W0.heap.size _ _ rfl (World.ownsRow.alloc HS2.out.own (.cells #[.int .i64 i,.int .i64 g,.bool false] 226)) (some ⟨W2.heap.size,0,none⟩) 1 (W2.alloc (.cells #[.int .i64 i,.int .i64 g,.bool false] 226)).heap.size [(i,g,false)] 1 rfl rfl (fun h=> by cases h) rd_oneK (by simp;omega) (by have:=HS2.out.bel.size;simp;omega) ?_)
     intro v5 w5 ho5 hg5 hn5
     have HS5:=hide (HS2.out.app ho5 hg5 hn5)
     clear ho5 hg5 hn5
     generalize hs5:s1++[(i,g,false)]=s5 at HS5 HRN
     have hl5:s5.length=s1.length+1:=by rw [←hs5];simp
     clear hs5
     have z1_w5:=bC HS5.out.bel Z1 ZZ
     have b0_w5:=bx_cell HS5.out.box 0 _ rfl
     have b1_w5:=bx_cell HS5.out.box 1 _ rfl
     have b2_w5:=bx_cell HS5.out.box 2 _ rfl
     go_wp2_with (at_builtin;refine wpList_append_lay appK0 rfl (.tmp 69) (.tmp 71) rfl W0.heap.size _ _ rfl (World.ownsRow.alloc HS5.out.own (.cells #[.int .i64 x,.int .i64 y,.bool u] 226)) (some ⟨w5.heap.size,0,none⟩) 1 (w5.alloc (.cells #[.int .i64 x,.int .i64 y,.bool u] 226)).heap.size [(x,y,u)] 1 rfl rfl (fun h=> by cases h) rd_oneK (by simp;omega) (by have:=HS5.out.bel.size;simp;omega) ?_)
     intro v6 w6 ho5 hg5 hn5
     have HSL:=hide (HS5.out.app ho5 hg5 hn5)
     clear ho5 hg5 hn5
     go_wp2
     go_roundw
     case rel=> exact ⟨t+1,by omega,by go_num,by rw [HRN.out],by rw [HRN.out];exact HSL.out.own,HSL.out.bel⟩
     case measure=> simp [intOf];omega
    ·have hgd:decide (i < x)=false:=decide_eq_false hgt
     have HRS2:=HRS.out
     unfold stepM at HRS2
     simp only [hneg2,if_false,hgt,and_false] at HRS2
     have HRN:=hide HRS2
     clear HRS HRS2
     (try have H1:=hide h1)
     (try have H3:=hide h3)
     (try clear h1 h3)
     (try clear h3)
     obtain ⟨W2,hW2⟩:∃W,wr.alloc (.cells #[.int .i64 x,.int .i64 y,.bool u] 226)=W:=⟨_,rfl⟩
     have HS2:Hid (St W0 W2 u7 s1 wr.heap.size x y u):=by rw [←hW2];exact St.start HO.out HBR.out
     have z1_W2:=bC HS2.out.bel Z1 ZZ
     have u0_W2:=bC HS2.out.bel U0 ZU
     have u1_W2:=bC HS2.out.bel U1 ZU
     have u2_W2:=bC HS2.out.bel U2 ZU
     have b0_W2:=bx_cell HS2.out.box 0 _ rfl
     have b1_W2:=bx_cell HS2.out.box 1 _ rfl
     have b2_W2:=bx_cell HS2.out.box 2 _ rfl
     have fb0_W2:=bx_frozen HS2.out.box 0
     have fb1_W2:=bx_frozen HS2.out.box 1
     have fb2_W2:=bx_frozen HS2.out.box 2
     go_wp2_with (at_builtin;refine wpList_append_lay appK0 rfl (.tmp 69) (.tmp 71) rfl W0.heap.size _ _ rfl (World.ownsRow.alloc HS2.out.own (.cells #[.int .i64 x,.int .i64 y,.bool u] 226)) (some ⟨W2.heap.size,0,none⟩) 1 (W2.alloc (.cells #[.int .i64 x,.int .i64 y,.bool u] 226)).heap.size [(x,y,u)] 1 rfl rfl (fun h=> by cases h) rd_oneK (by simp;omega) (by have:=HS2.out.bel.size;simp;omega) ?_)
     intro v6 w6 ho5 hg5 hn5
     have HSL:=hide (HS2.out.app ho5 hg5 hn5)
     clear ho5 hg5 hn5
     go_wp2
     go_roundw
     case rel=> exact ⟨t+1,by omega,by go_num,by rw [HRN.out],by rw [HRN.out];exact HSL.out.own,HSL.out.bel⟩
     case measure=> simp [intOf];omega
  ·have e:t=l.length:=by omega
   subst e
   obtain ⟨s1,s2,hs12⟩:∃s1 s2,runM l 0 i g (-1) l.length=(s1,s2):=⟨_,_,rfl⟩
   have hrl:=runM_len l 0 i g (-1) l.length
   have hput:=HPUT.out l.length
   rw [hs12] at HO HEND hrl hput ⊢
   dsimp only at HO hrl hput ⊢
   clear hs12 HPUT hlt
   have z1_wr:=bC HBR.out Z1 ZZ
   have u1_wr:=bC HBR.out U1 ZU
   have u2_wr:=bC HBR.out U2 ZU
   cases s2 with
   |true=>
    obtain rfl:m=s1:=HEND.out.symm
    have HOt:=HO
    have HBt:=HBR
    obtain ⟨o2,c2,e2,rd2⟩:=ownL.open (L:=layK) HOt.out
    have hcap2:=hide (own_capO HOt.out e2)
    subst e2
    have HRD:=hide rd2
    clear rd2 hput
    have HBt2:Hid (Below w.heap.size w wr):=HB.out.trans (HBt.out.mono hW0s)
    have hszt:=HBt.out.size
    have HRH:=hide (HG.out.kept HBt2.out (Nat.le_refl _))
    clear HG
    have z0_wrt:=bC HBt.out Z0 ZZ
    have z2_wrt:=bC HBt.out Z2 ZZ
    have q0_wrt:=bC HBt.out Q0 ZQ
    have q1_wrt:=bC HBt.out Q1 ZQ
    have q2_wrt:=bC HBt.out Q2 ZQ
    have hml:m.length≤1000:=by omega
    go_upto_region 21 with fail
    go_cut [11] from 83 to 94 (fun s11 wx=> ∃B v',s11=.pointer (some ⟨B,0,none⟩)∧Hid (wx.heap[B]? =some (.cells #[.int .i64 key,.slice o2 m.length c2,v'] 46 (0,0)))∧Hid (Below wr.heap.size wr wx)∧wr.heap.size≤B∧B < wx.heap.size∧Hid (RingO wx wr.heap.size v' (fun b=> pairI key b m) hsR))
    case first=>
     have hzW:w.heap.size < wr.heap.size:=by have:=ZZ;omega
     go_region_held3 (fun w'=> w'.cell? ⟨w.heap.size,0,none⟩=some (.int .i64 key)∧w'.cell? ⟨w.heap.size,2,none⟩=some (.slice oR hsR.length cR)) (first|with_reducible exact ⟨k1_0,k1_1⟩|with_reducible exact ⟨k0_0,k0_1⟩|with_reducible exact ⟨z0_wrt,z2_wrt⟩|with_reducible exact ⟨setP_cell k1_0 (show w.heap.size < wr.heap.size by omega),setP_cell k1_1 (show w.heap.size < wr.heap.size by omega)⟩|with_reducible exact ⟨setP_cell k1_0 (show w.heap.size < x0.heap.size by omega),setP_cell k1_1 (show w.heap.size < x0.heap.size by omega)⟩|with_reducible exact ⟨setP_cell k1_0 (show w.heap.size < x0.heap.size+1 by omega),setP_cell k1_1 (show w.heap.size < x0.heap.size+1 by omega)⟩|go_keep) (first|(go_at_call 190;have hc_:=l3tableO_any key o2 c2 m wr.drew ((HRD.out.kept (Below.drew (Below.refl _ _)) (Nat.le_refl _)).le (by simp)) hml hk hmok;with_reducible refine hc_.mono ?_;clear hc_;rintro e x0 ⟨o3,c3,hs3,rfl,ow3,tb3,hb⟩;have hp0:Below wr.heap.size wr x0:=Below.trans (show Below wr.heap.size wr wr.drew from (Below.drew (Below.refl _ _))) (hb.mono (by simp));have sp0:=hp0.size;have ow3:=own_mono ow3 (show wr.heap.size≤_ by simp);have tb3:=Tab.mono tb3 (show wr.heap.size≤_ by simp);have k0_0:=bC hp0 z0_wrt hzW;have k0_1:=bC hp0 z2_wrt hzW;clear hb)|(go_at_call 190;have hc_:=l3tableO_any key o2 c2 m (wr.alloc (.cells #[.int .i64 0,.slice none 0 0,.slice none 0 0] 46)).drew ((HRD.out.kept (Below.drew ((Below.refl _ _).alloc (Nat.le_refl _) _)) (Nat.le_refl _)).le (by simp)) hml hk hmok;with_reducible refine hc_.mono ?_;clear hc_;rintro e x0 ⟨o3,c3,hs3,rfl,ow3,tb3,hb⟩;have hp0:Below wr.heap.size wr x0:=Below.trans (show Below wr.heap.size wr (wr.alloc (.cells #[.int .i64 0,.slice none 0 0,.slice none 0 0] 46)).drew from (Below.drew ((Below.refl _ _).alloc (Nat.le_refl _) _))) (hb.mono (by simp));have sp0:=hp0.size;have ow3:=own_mono ow3 (show wr.heap.size≤_ by simp);have tb3:=Tab.mono tb3 (show wr.heap.size≤_ by simp);have k0_0:=bC hp0 z0_wrt hzW;have k0_1:=bC hp0 z2_wrt hzW;have hZ0:=box_newA hb;have hzl0:=(Array.getElem?_eq_some_iff.1 hZ0).1;clear hb)|(have hbv:Below x0.heap.size x0 (x0.alloc (.cells #[.slice o3 8 c3] 228)):=((Below.refl x0.heap.size x0).alloc (Nat.le_refl _) (.cells #[.slice o3 8 c3] 228));have own_:ownL layH 228 (x0.alloc (.cells #[.slice o3 8 c3] 228)) wr.heap.size (.slice (some ⟨x0.heap.size,0,none⟩) 1 1) [(o3,8,c3)]:=own_mono (one_own x0 o3 8 c3 _) (by (try simp) <;> omega);have hbw:Below w.heap.size w (x0.alloc (.cells #[.slice o3 8 c3] 228)):=HBt2.out.trans ((hp0.mono HBt2.out.size).trans (hbv.mono (Nat.le_trans HBt2.out.size sp0)));refine step_append_lay appHT rfl (.tmp 90) (.tmp 92) rfl wr.heap.size (.slice (some ⟨x0.heap.size,0,none⟩) 1 1) [(o3,8,c3)] rfl own_ oR cR w.heap.size hsR hsR.length rfl rfl hnR (HRH.out.kept (hp0.trans (hbv.mono sp0)) HBt2.out.size) (by simp;omega) (by simp;omega) ?_;intro v4 x1 ho4 hg4 hn4;have hr4:=ring_app own_ (own_kept ow3 hbv) (tb3.kept hbv) ho4 hg4;obtain ⟨g4,c4,e4⟩:=RingO.isSome hr4;subst e4;have hp1:Below wr.heap.size wr x1:=(hp0.trans (hbv.mono sp0)).grown hg4 (by (try simp) <;> omega) (fun k h=> (own_.lt k h).1);have sp1:=hp1.size;have k1_0:=bC hp1 z0_wrt hzW;have k1_1:=bC hp1 z2_wrt hzW;(try have hZ1:=box_far hg4 ((Below.heap_alloc _ _ _ hzl0).trans hZ0) (Nat.ne_of_lt hzl0));(try have hzc1_0:=bx_cell hZ1 0 _ rfl);(try have hzf1_0:=bx_frozen hZ1 0);(try have hzc1_1:=bx_cell hZ1 1 _ rfl);(try have hzf1_1:=bx_frozen hZ1 1);(try have hzc1_2:=bx_cell hZ1 2 _ rfl);(try have hzf1_2:=bx_frozen hZ1 2);clear ho4 hg4 hn4 own_ hbw hbv)|(have hbv:Below x0.heap.size x0 ((x0.alloc (.cells #[.int .i64 0,.slice none 0 0,.slice none 0 0] 46)).alloc (.cells #[.slice o3 8 c3] 228)):=(((Below.refl x0.heap.size x0).alloc (Nat.le_refl _) (.cells #[.int .i64 0,.slice none 0 0,.slice none 0 0] 46)).alloc (by simp) (.cells #[.slice o3 8 c3] 228));have own_:ownL layH 228 ((x0.alloc (.cells #[.int .i64 0,.slice none 0 0,.slice none 0 0] 46)).alloc (.cells #[.slice o3 8 c3] 228)) wr.heap.size (.slice (some ⟨x0.heap.size+1,0,none⟩) 1 1) [(o3,8,c3)]:=own_mono (one_own1 x0 (.cells #[.int .i64 0,.slice none 0 0,.slice none 0 0] 46) o3 8 c3 _) (by (try simp) <;> omega);have hbw:Below w.heap.size w ((x0.alloc (.cells #[.int .i64 0,.slice none 0 0,.slice none 0 0] 46)).alloc (.cells #[.slice o3 8 c3] 228)):=HBt2.out.trans ((hp0.mono HBt2.out.size).trans (hbv.mono (Nat.le_trans HBt2.out.size sp0)));refine step_append_lay appHT rfl (.tmp 90) (.tmp 92) rfl wr.heap.size (.slice (some ⟨x0.heap.size+1,0,none⟩) 1 1) [(o3,8,c3)] rfl own_ oR cR w.heap.size hsR hsR.length rfl rfl hnR (HRH.out.kept (hp0.trans (hbv.mono sp0)) HBt2.out.size) (by simp;omega) (by simp;omega) ?_;intro v4 x1 ho4 hg4 hn4;have hr4:=ring_app own_ (own_kept ow3 hbv) (tb3.kept hbv) ho4 hg4;obtain ⟨g4,c4,e4⟩:=RingO.isSome hr4;subst e4;have hp1:Below wr.heap.size wr x1:=(hp0.trans (hbv.mono sp0)).grown hg4 (by (try simp) <;> omega) (fun k h=> (own_.lt k h).1);have sp1:=hp1.size;have k1_0:=bC hp1 z0_wrt hzW;have k1_1:=bC hp1 z2_wrt hzW;have hZ2:=box_far hg4 (box_old2 x0 #[.int .i64 0,.slice none 0 0,.slice none 0 0] 46 (.cells #[.slice o3 8 c3] 228)) (Nat.ne_of_lt (Nat.lt_succ_self _));(try have hzc2_0:=bx_cell hZ2 0 _ rfl);(try have hzf2_0:=bx_frozen hZ2 0);(try have hzc2_1:=bx_cell hZ2 1 _ rfl);(try have hzf2_1:=bx_frozen hZ2 1);(try have hzc2_2:=bx_cell hZ2 2 _ rfl);(try have hzf2_2:=bx_frozen hZ2 2);clear ho4 hg4 hn4 own_ hbw hbv)|(have hbv:Below x0.heap.size x0 ((x0.alloc (.cells #[.slice o3 8 c3] 228)).alloc (.cells #[.int .i64 0,.slice none 0 0,.slice none 0 0] 46)):=(((Below.refl x0.heap.size x0).alloc (Nat.le_refl _) (.cells #[.slice o3 8 c3] 228)).alloc (by simp) (.cells #[.int .i64 0,.slice none 0 0,.slice none 0 0] 46));have own_:ownL layH 228 ((x0.alloc (.cells #[.slice o3 8 c3] 228)).alloc (.cells #[.int .i64 0,.slice none 0 0,.slice none 0 0] 46)) wr.heap.size (.slice (some ⟨x0.heap.size,0,none⟩) 1 1) [(o3,8,c3)]:=own_mono (World.ownsRow.alloc (one_own x0 o3 8 c3 _) (.cells #[.int .i64 0,.slice none 0 0,.slice none 0 0] 46)) (by (try simp) <;> omega);have hbw:Below w.heap.size w ((x0.alloc (.cells #[.slice o3 8 c3] 228)).alloc (.cells #[.int .i64 0,.slice none 0 0,.slice none 0 0] 46)):=HBt2.out.trans ((hp0.mono HBt2.out.size).trans (hbv.mono (Nat.le_trans HBt2.out.size sp0)));refine step_append_lay appHT rfl (.tmp 90) (.tmp 92) rfl wr.heap.size (.slice (some ⟨x0.heap.size,0,none⟩) 1 1) [(o3,8,c3)] rfl own_ oR cR w.heap.size hsR hsR.length rfl rfl hnR (HRH.out.kept (hp0.trans (hbv.mono sp0)) HBt2.out.size) (by simp;omega) (by simp;omega) ?_;intro v4 x1 ho4 hg4 hn4;have hr4:=ring_app own_ (own_kept ow3 hbv) (tb3.kept hbv) ho4 hg4;obtain ⟨g4,c4,e4⟩:=RingO.isSome hr4;subst e4;have hp1:Below wr.heap.size wr x1:=(hp0.trans (hbv.mono sp0)).grown hg4 (by (try simp) <;> omega) (fun k h=> (own_.lt k h).1);have sp1:=hp1.size;have k1_0:=bC hp1 z0_wrt hzW;have k1_1:=bC hp1 z2_wrt hzW;have hZ3:=box_far hg4 (box_new2 x0 #[.int .i64 0,.slice none 0 0,.slice none 0 0] 46 (.cells #[.slice o3 8 c3] 228)) (Nat.ne_of_gt (Nat.lt_succ_self _));(try have hzc3_0:=bx_cell hZ3 0 _ rfl);(try have hzf3_0:=bx_frozen hZ3 0);(try have hzc3_1:=bx_cell hZ3 1 _ rfl);(try have hzf3_1:=bx_frozen hZ3 1);(try have hzc3_2:=bx_cell hZ3 2 _ rfl);(try have hzf3_2:=bx_frozen hZ3 2);clear ho4 hg4 hn4 own_ hbw hbv))
     all_goals (go_wp2_with fail;go_meet)
     all_goals first
      |with_reducible exact finP hZ1 hp1 (by omega) hr4
      |with_reducible exact finP hZ2 hp1 (by omega) hr4
      |with_reducible exact finP hZ3 hp1 (by omega) hr4
      |with_reducible exact finPn hp1 hr4
    case rest=>
    obtain ⟨B,v',rfl,Hbx,Hbl,hB1,hB2,Hr⟩:=hcut
    obtain ⟨g4,c4,e4⟩:=RingO.isSome Hr.out
    subst e4
    have hcap4:=RingO.cap Hr.out
    have hqz:=ZQ
    have hqz2:w.heap.size+1+1 < wr.heap.size:=by omega
    have hwc:=Hbl.out.size
    have qc0:=bC Hbl.out q0_wrt hqz2
    have fqc0:=bF Hbl.out (bF HBt.out FQ0 ZQ) hqz2
    have bc0:=bx_cell Hbx.out 0 _ rfl
    have fbc0:=bx_frozen Hbx.out 0
    have qc1:=bC Hbl.out q1_wrt hqz2
    have fqc1:=bF Hbl.out (bF HBt.out FQ1 ZQ) hqz2
    have bc1:=bx_cell Hbx.out 1 _ rfl
    have fbc1:=bx_frozen Hbx.out 1
    have qc2:=bC Hbl.out q2_wrt hqz2
    have fqc2:=bF Hbl.out (bF HBt.out FQ2 ZQ) hqz2
    have bc2:=bx_cell Hbx.out 2 _ rfl
    have fbc2:=bx_frozen Hbx.out 2
    clear z0_wrt z2_wrt q0_wrt q1_wrt q2_wrt
    have HOw:=hide (own_kept HOt.out Hbl.out)
    have HBw:Hid (Below w.heap.size w wc):=HBt2.out.trans (Hbl.out.mono HBt2.out.size)
    have hne1:B≠w.heap.size+1+1:=by omega
    have hne2:w.heap.size+1+1≠B:=by omega
    by_cases h4:hsR.length=3
    ·skip
     have h4':(hsR.length:Int)=3:=by omega
     have h41:3≤c4:=by omega
     obtain ⟨W5,hW5⟩:∃W,wc.setCell ⟨B,2,none⟩ (.slice (some ⟨g4,0,none⟩) 3 c4)=W:=⟨_,rfl⟩
     have hW5b:W5.heap[B]? =some (.cells #[.int .i64 key,.slice o2 m.length c2,.slice (some ⟨g4,0,none⟩) 3 c4] 46 (0,0)):=by rw [←hW5];exact box_put Hbx.out 2 _
     have b50:=bx_cell hW5b 0 _ rfl
     have q50:W5.cell? ⟨w.heap.size+1+1,0,none⟩=some (.int .i64 0):=by rw [←hW5];exact (cell_far hne2).trans qc0
     have fq50:W5.frozen? ⟨w.heap.size+1+1,0,none⟩=false:=by rw [←hW5];exact (frozen_far hne2).trans fqc0
     have b51:=bx_cell hW5b 1 _ rfl
     have q51:W5.cell? ⟨w.heap.size+1+1,1,none⟩=some (.slice none 0 0):=by rw [←hW5];exact (cell_far hne2).trans qc1
     have fq51:W5.frozen? ⟨w.heap.size+1+1,1,none⟩=false:=by rw [←hW5];exact (frozen_far hne2).trans fqc1
     have b52:=bx_cell hW5b 2 _ rfl
     have q52:W5.cell? ⟨w.heap.size+1+1,2,none⟩=some (.slice none 0 0):=by rw [←hW5];exact (cell_far hne2).trans qc2
     have fq52:W5.frozen? ⟨w.heap.size+1+1,2,none⟩=false:=by rw [←hW5];exact (frozen_far hne2).trans fqc2
     have HO5:Hid (ownK W5 W0.heap.size (.slice o2 m.length c2) m):=by rw [←hW5];exact own_putB HOw.out Hbx.out neP4 2 _
     have HR5:Hid (RingO W5 wr.heap.size (.slice (some ⟨g4,0,none⟩) (hsR.length+1) c4) (fun b=> pairI key b m) hsR):=by rw [←hW5];exact Hr.out.put Hbx.out 2 _
     have HB5:Hid (Below w.heap.size w W5):=by rw [←hW5];exact HBw.out.setCell (p:=⟨B,2,none⟩) (show w.heap.size≤B by have:=HBt2.out.size;omega) _
     obtain ⟨o3,c3,hs3,rg1,rg2,rg3⟩:=((HR5.out.low hqz2 0 (.int .i64 key)).low hqz2 1 (.slice o2 m.length c2)).low hqz2 2 (.slice (some ⟨g4,0,none⟩) 3 c4)
     have HG1:=hide rg1
     have HG2:=hide rg2
     have HG3:=hide rg3
     clear rg1 rg2 rg3
     go_wp2
     refine bodyPost_ret (v:=.tuple #[plv key (.slice o2 m.length c2) (.slice (some ⟨g4,0,none⟩) 3 c4),.bool true]) (by simp [results,Tryz.results147,go_sem,q50,q51,q52]) rfl ?_
     unfold DoPost
     refine ⟨o2,c2,some ⟨g4,0,none⟩,3,c4,o3,c3,hs3,rfl, ?_, ?_, ?_,own_mono HG2.out (by omega),Tab.mono HG3.out (by omega), ?_⟩
     ·simp;omega
     ·exact own_mono (own_low (own_low (own_low HO5.out ZQ 0 _) ZQ 1 _) ZQ 2 _) hW0s
     ·exact own_mono (own_head3 HG1.out (by simp;omega)) (by omega)
     ·exact ((HB5.out.setCell (p:=⟨w.heap.size+1+1,0,none⟩) (by (try simp) <;> omega) _).setCell (p:=⟨w.heap.size+1+1,1,none⟩) (by (try simp) <;> omega) _).setCell (p:=⟨w.heap.size+1+1,2,none⟩) (by (try simp) <;> omega) _
    ·skip
     have h4':¬((hsR.length:Int)+1 > 3):=by omega
     have h4d:decide (3 < (hsR.length:Int)+1)=false:=decide_eq_false (by omega)
     obtain ⟨o3,c3,hs3,rg1,rg2,rg3⟩:=((Hr.out.low hqz2 0 (.int .i64 key)).low hqz2 1 (.slice o2 m.length c2)).low hqz2 2 (.slice (some ⟨g4,0,none⟩) (hsR.length+1) c4)
     have HG1:=hide rg1
     have HG2:=hide rg2
     have HG3:=hide rg3
     clear rg1 rg2 rg3
     go_wp2
     refine bodyPost_ret (v:=.tuple #[plv key (.slice o2 m.length c2) (.slice (some ⟨g4,0,none⟩) (hsR.length+1) c4),.bool true]) (by simp [results,Tryz.results147,go_sem,qc0,qc1,qc2,hne1,hne2]) rfl ?_
     unfold DoPost
     refine ⟨o2,c2,some ⟨g4,0,none⟩,(hsR.length+1),c4,o3,c3,hs3,rfl, ?_, ?_, ?_,own_mono HG2.out (by omega),Tab.mono HG3.out (by omega), ?_⟩
     ·simp;omega
     ·exact own_mono (own_low (own_low (own_low HOw.out ZQ 0 _) ZQ 1 _) ZQ 2 _) hW0s
     ·have e:((o3,8,c3)::hsR).take 3=(o3,8,c3)::hsR:=List.take_of_length_le (by simp;omega)
      rw [e]
      exact own_mono HG1.out (by omega)
     ·exact ((HBw.out.setCell (p:=⟨w.heap.size+1+1,0,none⟩) (by (try simp) <;> omega) _).setCell (p:=⟨w.heap.size+1+1,1,none⟩) (by (try simp) <;> omega) _).setCell (p:=⟨w.heap.size+1+1,2,none⟩) (by (try simp) <;> omega) _
   |false=>
    have hem:s1++[(i,g,false)]=m:=HEND.out
    go_wp2_with (at_builtin;refine wpList_append_lay appK0 rfl (.tmp 75) (.tmp 81) rfl W0.heap.size _ _ rfl (World.ownsRow.alloc HO.out (.cells #[.int .i64 i,.int .i64 g,.bool false] 226)) (some ⟨wr.heap.size,0,none⟩) 1 (wr.alloc (.cells #[.int .i64 i,.int .i64 g,.bool false] 226)).heap.size [(i,g,false)] 1 rfl rfl (fun h=> by cases h) rd_oneK (by simp;omega) (by have:=HBR.out.size;simp;omega) ?_)
    intro vt wt ho5 hg5 _
    (try rw [hem] at ho5)
    have HOt:=hide ho5
    have HBt:=hide ((HBR.out.alloc HBR.out.size (.cells #[.int .i64 i,.int .i64 g,.bool false] 226)).grown hg5 (by have:=HBR.out.size;simp;omega) (fun k e=> (HO.out.lt k e).1))
    clear ho5 hg5 hem HEND HO z1_wr u1_wr u2_wr HBB HBR
    obtain ⟨o2,c2,e2,rd2⟩:=ownL.open (L:=layK) HOt.out
    have hcap2:=hide (own_capO HOt.out e2)
    subst e2
    have HRD:=hide rd2
    clear rd2
    have HBt2:Hid (Below w.heap.size w wt):=HB.out.trans (HBt.out.mono hW0s)
    have hszt:=HBt.out.size
    have HRH:=hide (HG.out.kept HBt2.out (Nat.le_refl _))
    clear HG
    have z0_wtt:=bC HBt.out Z0 ZZ
    have z2_wtt:=bC HBt.out Z2 ZZ
    have q0_wtt:=bC HBt.out Q0 ZQ
    have q1_wtt:=bC HBt.out Q1 ZQ
    have q2_wtt:=bC HBt.out Q2 ZQ
    have hml:m.length≤1000:=by omega
    go_upto_region 21 with fail
    go_cut [11] from 83 to 94 (fun s11 wx=> ∃B v',s11=.pointer (some ⟨B,0,none⟩)∧Hid (wx.heap[B]? =some (.cells #[.int .i64 key,.slice o2 m.length c2,v'] 46 (0,0)))∧Hid (Below wt.heap.size wt wx)∧wt.heap.size≤B∧B < wx.heap.size∧Hid (RingO wx wt.heap.size v' (fun b=> pairI key b m) hsR))
    case first=>
     have hzW:w.heap.size < wt.heap.size:=by have:=ZZ;omega
     go_region_held3 (fun w'=> w'.cell? ⟨w.heap.size,0,none⟩=some (.int .i64 key)∧w'.cell? ⟨w.heap.size,2,none⟩=some (.slice oR hsR.length cR)) (first|with_reducible exact ⟨k1_0,k1_1⟩|with_reducible exact ⟨k0_0,k0_1⟩|with_reducible exact ⟨z0_wtt,z2_wtt⟩|with_reducible exact ⟨setP_cell k1_0 (show w.heap.size < wt.heap.size by omega),setP_cell k1_1 (show w.heap.size < wt.heap.size by omega)⟩|with_reducible exact ⟨setP_cell k1_0 (show w.heap.size < x0.heap.size by omega),setP_cell k1_1 (show w.heap.size < x0.heap.size by omega)⟩|with_reducible exact ⟨setP_cell k1_0 (show w.heap.size < x0.heap.size+1 by omega),setP_cell k1_1 (show w.heap.size < x0.heap.size+1 by omega)⟩|go_keep) (first|(go_at_call 190;have hc_:=l3tableO_any key o2 c2 m wt.drew ((HRD.out.kept (Below.drew (Below.refl _ _)) (Nat.le_refl _)).le (by simp)) hml hk hmok;with_reducible refine hc_.mono ?_;clear hc_;rintro e x0 ⟨o3,c3,hs3,rfl,ow3,tb3,hb⟩;have hp0:Below wt.heap.size wt x0:=Below.trans (show Below wt.heap.size wt wt.drew from (Below.drew (Below.refl _ _))) (hb.mono (by simp));have sp0:=hp0.size;have ow3:=own_mono ow3 (show wt.heap.size≤_ by simp);have tb3:=Tab.mono tb3 (show wt.heap.size≤_ by simp);have k0_0:=bC hp0 z0_wtt hzW;have k0_1:=bC hp0 z2_wtt hzW;clear hb)|(go_at_call 190;have hc_:=l3tableO_any key o2 c2 m (wt.alloc (.cells #[.int .i64 0,.slice none 0 0,.slice none 0 0] 46)).drew ((HRD.out.kept (Below.drew ((Below.refl _ _).alloc (Nat.le_refl _) _)) (Nat.le_refl _)).le (by simp)) hml hk hmok;with_reducible refine hc_.mono ?_;clear hc_;rintro e x0 ⟨o3,c3,hs3,rfl,ow3,tb3,hb⟩;have hp0:Below wt.heap.size wt x0:=Below.trans (show Below wt.heap.size wt (wt.alloc (.cells #[.int .i64 0,.slice none 0 0,.slice none 0 0] 46)).drew from (Below.drew ((Below.refl _ _).alloc (Nat.le_refl _) _))) (hb.mono (by simp));have sp0:=hp0.size;have ow3:=own_mono ow3 (show wt.heap.size≤_ by simp);have tb3:=Tab.mono tb3 (show wt.heap.size≤_ by simp);have k0_0:=bC hp0 z0_wtt hzW;have k0_1:=bC hp0 z2_wtt hzW;have hZ0:=box_newA hb;have hzl0:=(Array.getElem?_eq_some_iff.1 hZ0).1;clear hb)|(have hbv:Below x0.heap.size x0 (x0.alloc (.cells #[.slice o3 8 c3] 228)):=((Below.refl x0.heap.size x0).alloc (Nat.le_refl _) (.cells #[.slice o3 8 c3] 228));have own_:ownL layH 228 (x0.alloc (.cells #[.slice o3 8 c3] 228)) wt.heap.size (.slice (some ⟨x0.heap.size,0,none⟩) 1 1) [(o3,8,c3)]:=own_mono (one_own x0 o3 8 c3 _) (by (try simp) <;> omega);have hbw:Below w.heap.size w (x0.alloc (.cells #[.slice o3 8 c3] 228)):=HBt2.out.trans ((hp0.mono HBt2.out.size).trans (hbv.mono (Nat.le_trans HBt2.out.size sp0)));refine step_append_lay appHT rfl (.tmp 90) (.tmp 92) rfl wt.heap.size (.slice (some ⟨x0.heap.size,0,none⟩) 1 1) [(o3,8,c3)] rfl own_ oR cR w.heap.size hsR hsR.length rfl rfl hnR (HRH.out.kept (hp0.trans (hbv.mono sp0)) HBt2.out.size) (by simp;omega) (by simp;omega) ?_;intro v4 x1 ho4 hg4 hn4;have hr4:=ring_app own_ (own_kept ow3 hbv) (tb3.kept hbv) ho4 hg4;obtain ⟨g4,c4,e4⟩:=RingO.isSome hr4;subst e4;have hp1:Below wt.heap.size wt x1:=(hp0.trans (hbv.mono sp0)).grown hg4 (by (try simp) <;> omega) (fun k h=> (own_.lt k h).1);have sp1:=hp1.size;have k1_0:=bC hp1 z0_wtt hzW;have k1_1:=bC hp1 z2_wtt hzW;(try have hZ1:=box_far hg4 ((Below.heap_alloc _ _ _ hzl0).trans hZ0) (Nat.ne_of_lt hzl0));(try have hzc1_0:=bx_cell hZ1 0 _ rfl);(try have hzf1_0:=bx_frozen hZ1 0);(try have hzc1_1:=bx_cell hZ1 1 _ rfl);(try have hzf1_1:=bx_frozen hZ1 1);(try have hzc1_2:=bx_cell hZ1 2 _ rfl);(try have hzf1_2:=bx_frozen hZ1 2);clear ho4 hg4 hn4 own_ hbw hbv)|(have hbv:Below x0.heap.size x0 ((x0.alloc (.cells #[.int .i64 0,.slice none 0 0,.slice none 0 0] 46)).alloc (.cells #[.slice o3 8 c3] 228)):=(((Below.refl x0.heap.size x0).alloc (Nat.le_refl _) (.cells #[.int .i64 0,.slice none 0 0,.slice none 0 0] 46)).alloc (by simp) (.cells #[.slice o3 8 c3] 228));have own_:ownL layH 228 ((x0.alloc (.cells #[.int .i64 0,.slice none 0 0,.slice none 0 0] 46)).alloc (.cells #[.slice o3 8 c3] 228)) wt.heap.size (.slice (some ⟨x0.heap.size+1,0,none⟩) 1 1) [(o3,8,c3)]:=own_mono (one_own1 x0 (.cells #[.int .i64 0,.slice none 0 0,.slice none 0 0] 46) o3 8 c3 _) (by (try simp) <;> omega);have hbw:Below w.heap.size w ((x0.alloc (.cells #[.int .i64 0,.slice none 0 0,.slice none 0 0] 46)).alloc (.cells #[.slice o3 8 c3] 228)):=HBt2.out.trans ((hp0.mono HBt2.out.size).trans (hbv.mono (Nat.le_trans HBt2.out.size sp0)));refine step_append_lay appHT rfl (.tmp 90) (.tmp 92) rfl wt.heap.size (.slice (some ⟨x0.heap.size+1,0,none⟩) 1 1) [(o3,8,c3)] rfl own_ oR cR w.heap.size hsR hsR.length rfl rfl hnR (HRH.out.kept (hp0.trans (hbv.mono sp0)) HBt2.out.size) (by simp;omega) (by simp;omega) ?_;intro v4 x1 ho4 hg4 hn4;have hr4:=ring_app own_ (own_kept ow3 hbv) (tb3.kept hbv) ho4 hg4;obtain ⟨g4,c4,e4⟩:=RingO.isSome hr4;subst e4;have hp1:Below wt.heap.size wt x1:=(hp0.trans (hbv.mono sp0)).grown hg4 (by (try simp) <;> omega) (fun k h=> (own_.lt k h).1);have sp1:=hp1.size;have k1_0:=bC hp1 z0_wtt hzW;have k1_1:=bC hp1 z2_wtt hzW;have hZ2:=box_far hg4 (box_old2 x0 #[.int .i64 0,.slice none 0 0,.slice none 0 0] 46 (.cells #[.slice o3 8 c3] 228)) (Nat.ne_of_lt (Nat.lt_succ_self _));(try have hzc2_0:=bx_cell hZ2 0 _ rfl);(try have hzf2_0:=bx_frozen hZ2 0);(try have hzc2_1:=bx_cell hZ2 1 _ rfl);(try have hzf2_1:=bx_frozen hZ2 1);(try have hzc2_2:=bx_cell hZ2 2 _ rfl);(try have hzf2_2:=bx_frozen hZ2 2);clear ho4 hg4 hn4 own_ hbw hbv)|(have hbv:Below x0.heap.size x0 ((x0.alloc (.cells #[.slice o3 8 c3] 228)).alloc (.cells #[.int .i64 0,.slice none 0 0,.slice none 0 0] 46)):=(((Below.refl x0.heap.size x0).alloc (Nat.le_refl _) (.cells #[.slice o3 8 c3] 228)).alloc (by simp) (.cells #[.int .i64 0,.slice none 0 0,.slice none 0 0] 46));have own_:ownL layH 228 ((x0.alloc (.cells #[.slice o3 8 c3] 228)).alloc (.cells #[.int .i64 0,.slice none 0 0,.slice none 0 0] 46)) wt.heap.size (.slice (some ⟨x0.heap.size,0,none⟩) 1 1) [(o3,8,c3)]:=own_mono (World.ownsRow.alloc (one_own x0 o3 8 c3 _) (.cells #[.int .i64 0,.slice none 0 0,.slice none 0 0] 46)) (by (try simp) <;> omega);have hbw:Below w.heap.size w ((x0.alloc (.cells #[.slice o3 8 c3] 228)).alloc (.cells #[.int .i64 0,.slice none 0 0,.slice none 0 0] 46)):=HBt2.out.trans ((hp0.mono HBt2.out.size).trans (hbv.mono (Nat.le_trans HBt2.out.size sp0)));refine step_append_lay appHT rfl (.tmp 90) (.tmp 92) rfl wt.heap.size (.slice (some ⟨x0.heap.size,0,none⟩) 1 1) [(o3,8,c3)] rfl own_ oR cR w.heap.size hsR hsR.length rfl rfl hnR (HRH.out.kept (hp0.trans (hbv.mono sp0)) HBt2.out.size) (by simp;omega) (by simp;omega) ?_;intro v4 x1 ho4 hg4 hn4;have hr4:=ring_app own_ (own_kept ow3 hbv) (tb3.kept hbv) ho4 hg4;obtain ⟨g4,c4,e4⟩:=RingO.isSome hr4;subst e4;have hp1:Below wt.heap.size wt x1:=(hp0.trans (hbv.mono sp0)).grown hg4 (by (try simp) <;> omega) (fun k h=> (own_.lt k h).1);have sp1:=hp1.size;have k1_0:=bC hp1 z0_wtt hzW;have k1_1:=bC hp1 z2_wtt hzW;have hZ3:=box_far hg4 (box_new2 x0 #[.int .i64 0,.slice none 0 0,.slice none 0 0] 46 (.cells #[.slice o3 8 c3] 228)) (Nat.ne_of_gt (Nat.lt_succ_self _));(try have hzc3_0:=bx_cell hZ3 0 _ rfl);(try have hzf3_0:=bx_frozen hZ3 0);(try have hzc3_1:=bx_cell hZ3 1 _ rfl);(try have hzf3_1:=bx_frozen hZ3 1);(try have hzc3_2:=bx_cell hZ3 2 _ rfl);(try have hzf3_2:=bx_frozen hZ3 2);clear ho4 hg4 hn4 own_ hbw hbv))
     all_goals (go_wp2_with fail;go_meet)
     all_goals first
      |with_reducible exact finP hZ1 hp1 (by omega) hr4
      |with_reducible exact finP hZ2 hp1 (by omega) hr4
      |with_reducible exact finP hZ3 hp1 (by omega) hr4
      |with_reducible exact finPn hp1 hr4
    case rest=>
    obtain ⟨B,v',rfl,Hbx,Hbl,hB1,hB2,Hr⟩:=hcut
    obtain ⟨g4,c4,e4⟩:=RingO.isSome Hr.out
    subst e4
    have hcap4:=RingO.cap Hr.out
    have hqz:=ZQ
    have hqz2:w.heap.size+1+1 < wt.heap.size:=by omega
    have hwc:=Hbl.out.size
    have qc0:=bC Hbl.out q0_wtt hqz2
    have fqc0:=bF Hbl.out (bF HBt.out FQ0 ZQ) hqz2
    have bc0:=bx_cell Hbx.out 0 _ rfl
    have fbc0:=bx_frozen Hbx.out 0
    have qc1:=bC Hbl.out q1_wtt hqz2
    have fqc1:=bF Hbl.out (bF HBt.out FQ1 ZQ) hqz2
    have bc1:=bx_cell Hbx.out 1 _ rfl
    have fbc1:=bx_frozen Hbx.out 1
    have qc2:=bC Hbl.out q2_wtt hqz2
    have fqc2:=bF Hbl.out (bF HBt.out FQ2 ZQ) hqz2
    have bc2:=bx_cell Hbx.out 2 _ rfl
    have fbc2:=bx_frozen Hbx.out 2
    clear z0_wtt z2_wtt q0_wtt q1_wtt q2_wtt
    have HOw:=hide (own_kept HOt.out Hbl.out)
    have HBw:Hid (Below w.heap.size w wc):=HBt2.out.trans (Hbl.out.mono HBt2.out.size)
    have hne1:B≠w.heap.size+1+1:=by omega
    have hne2:w.heap.size+1+1≠B:=by omega
    by_cases h4:hsR.length=3
    ·skip
     have h4':(hsR.length:Int)=3:=by omega
     have h41:3≤c4:=by omega
     obtain ⟨W5,hW5⟩:∃W,wc.setCell ⟨B,2,none⟩ (.slice (some ⟨g4,0,none⟩) 3 c4)=W:=⟨_,rfl⟩
     have hW5b:W5.heap[B]? =some (.cells #[.int .i64 key,.slice o2 m.length c2,.slice (some ⟨g4,0,none⟩) 3 c4] 46 (0,0)):=by rw [←hW5];exact box_put Hbx.out 2 _
     have b50:=bx_cell hW5b 0 _ rfl
     have q50:W5.cell? ⟨w.heap.size+1+1,0,none⟩=some (.int .i64 0):=by rw [←hW5];exact (cell_far hne2).trans qc0
     have fq50:W5.frozen? ⟨w.heap.size+1+1,0,none⟩=false:=by rw [←hW5];exact (frozen_far hne2).trans fqc0
     have b51:=bx_cell hW5b 1 _ rfl
     have q51:W5.cell? ⟨w.heap.size+1+1,1,none⟩=some (.slice none 0 0):=by rw [←hW5];exact (cell_far hne2).trans qc1
     have fq51:W5.frozen? ⟨w.heap.size+1+1,1,none⟩=false:=by rw [←hW5];exact (frozen_far hne2).trans fqc1
     have b52:=bx_cell hW5b 2 _ rfl
     have q52:W5.cell? ⟨w.heap.size+1+1,2,none⟩=some (.slice none 0 0):=by rw [←hW5];exact (cell_far hne2).trans qc2
     have fq52:W5.frozen? ⟨w.heap.size+1+1,2,none⟩=false:=by rw [←hW5];exact (frozen_far hne2).trans fqc2
     have HO5:Hid (ownK W5 W0.heap.size (.slice o2 m.length c2) m):=by rw [←hW5];exact own_putB HOw.out Hbx.out neP4 2 _
     have HR5:Hid (RingO W5 wt.heap.size (.slice (some ⟨g4,0,none⟩) (hsR.length+1) c4) (fun b=> pairI key b m) hsR):=by rw [←hW5];exact Hr.out.put Hbx.out 2 _
     have HB5:Hid (Below w.heap.size w W5):=by rw [←hW5];exact HBw.out.setCell (p:=⟨B,2,none⟩) (show w.heap.size≤B by have:=HBt2.out.size;omega) _
     obtain ⟨o3,c3,hs3,rg1,rg2,rg3⟩:=((HR5.out.low hqz2 0 (.int .i64 key)).low hqz2 1 (.slice o2 m.length c2)).low hqz2 2 (.slice (some ⟨g4,0,none⟩) 3 c4)
     have HG1:=hide rg1
     have HG2:=hide rg2
     have HG3:=hide rg3
     clear rg1 rg2 rg3
     go_wp2
     refine bodyPost_ret (v:=.tuple #[plv key (.slice o2 m.length c2) (.slice (some ⟨g4,0,none⟩) 3 c4),.bool true]) (by simp [results,Tryz.results147,go_sem,q50,q51,q52]) rfl ?_
     unfold DoPost
     refine ⟨o2,c2,some ⟨g4,0,none⟩,3,c4,o3,c3,hs3,rfl, ?_, ?_, ?_,own_mono HG2.out (by omega),Tab.mono HG3.out (by omega), ?_⟩
     ·simp;omega
     ·exact own_mono (own_low (own_low (own_low HO5.out ZQ 0 _) ZQ 1 _) ZQ 2 _) hW0s
     ·exact own_mono (own_head3 HG1.out (by simp;omega)) (by omega)
     ·exact ((HB5.out.setCell (p:=⟨w.heap.size+1+1,0,none⟩) (by (try simp) <;> omega) _).setCell (p:=⟨w.heap.size+1+1,1,none⟩) (by (try simp) <;> omega) _).setCell (p:=⟨w.heap.size+1+1,2,none⟩) (by (try simp) <;> omega) _
    ·skip
     have h4':¬((hsR.length:Int)+1 > 3):=by omega
     have h4d:decide (3 < (hsR.length:Int)+1)=false:=decide_eq_false (by omega)
     obtain ⟨o3,c3,hs3,rg1,rg2,rg3⟩:=((Hr.out.low hqz2 0 (.int .i64 key)).low hqz2 1 (.slice o2 m.length c2)).low hqz2 2 (.slice (some ⟨g4,0,none⟩) (hsR.length+1) c4)
     have HG1:=hide rg1
     have HG2:=hide rg2
     have HG3:=hide rg3
     clear rg1 rg2 rg3
     go_wp2
     refine bodyPost_ret (v:=.tuple #[plv key (.slice o2 m.length c2) (.slice (some ⟨g4,0,none⟩) (hsR.length+1) c4),.bool true]) (by simp [results,Tryz.results147,go_sem,qc0,qc1,qc2,hne1,hne2]) rfl ?_
     unfold DoPost
     refine ⟨o2,c2,some ⟨g4,0,none⟩,(hsR.length+1),c4,o3,c3,hs3,rfl, ?_, ?_, ?_,own_mono HG2.out (by omega),Tab.mono HG3.out (by omega), ?_⟩
     ·simp;omega
     ·exact own_mono (own_low (own_low (own_low HOw.out ZQ 0 _) ZQ 1 _) ZQ 2 _) hW0s
     ·have e:((o3,8,c3)::hsR).take 3=(o3,8,c3)::hsR:=List.take_of_length_le (by simp;omega)
      rw [e]
      exact own_mono HG1.out (by omega)
     ·exact ((HBw.out.setCell (p:=⟨w.heap.size+1+1,0,none⟩) (by (try simp) <;> omega) _).setCell (p:=⟨w.heap.size+1+1,1,none⟩) (by (try simp) <;> omega) _).setCell (p:=⟨w.heap.size+1+1,2,none⟩) (by (try simp) <;> omega) _
theorem l4do_else (key:Int) (o:Option Addr) (cap:Nat) (l:List Bk) (oR:Option Addr) (cR:Nat) (hsR:List Hd) (k i g:Int) (pl:Nat) (m:List Bk) (w:World) (hk:keyB key=true) (hl:backsOkB l=true) (hc:cmdOkB k i g=true) (hm:doL l k i g=some m) (hlen:l.length≤100) (hR:RdK w.heap.size w o l) (hG:RdL layH w.heap.size w oR hsR) (hnR:oR=none→cR=0) (hR3:hsR.length≤3) (hk1:k≠0) (hk0:(k==0)=false) (hpl:pl=placeN l i):
  Calls Tryz.prog 147 #[plv key (.slice o l.length cap) (.slice oR hsR.length cR),cmd k i g] w fun e w'=> DoPost key m hsR w e w':=by
 obtain ⟨W0,hW0⟩:∃W,(((w.alloc (.cells #[.int .i64 key,.slice o l.length cap,.slice oR hsR.length cR] 46)).alloc (.cells #[.int .i64 k,.int .i64 i,.int .i64 g] 221)).alloc (.cells #[.int .i64 0,.slice none 0 0,.slice none 0 0] 46))=W:=⟨_,rfl⟩
 have hb_W0:Below w.heap.size w W0:=by rw [←hW0];exact ((((Below.refl _ _).alloc (Nat.le_refl _) _).alloc (by simp <;> omega) _).alloc (by simp <;> omega) _)
 have HB:=hide hb_W0
 clear hb_W0
 have zz:w.heap.size < W0.heap.size:=by rw [←hW0];simp <;> omega
 have z0:W0.cell? ⟨w.heap.size,0,none⟩=some (.int .i64 key):=by rw [←hW0];simp [go_sem]
 have z1:W0.cell? ⟨w.heap.size,1,none⟩=some (.slice o l.length cap):=by rw [←hW0];simp [go_sem]
 have z2:W0.cell? ⟨w.heap.size,2,none⟩=some (.slice oR hsR.length cR):=by rw [←hW0];simp [go_sem]
 have zu:w.heap.size+1 < W0.heap.size:=by rw [←hW0];simp <;> omega
 have u0:W0.cell? ⟨w.heap.size+1,0,none⟩=some (.int .i64 k):=by rw [←hW0];simp [go_sem]
 have u1:W0.cell? ⟨w.heap.size+1,1,none⟩=some (.int .i64 i):=by rw [←hW0];simp [go_sem]
 have u2:W0.cell? ⟨w.heap.size+1,2,none⟩=some (.int .i64 g):=by rw [←hW0];simp [go_sem]
 have zr:w.heap.size+1+1 < W0.heap.size:=by rw [←hW0];simp
 have r0:W0.cell? ⟨w.heap.size+1+1,0,none⟩=some (.int .i64 0):=by rw [←hW0];simp [go_sem]
 have r1:W0.cell? ⟨w.heap.size+1+1,1,none⟩=some (.slice none 0 0):=by rw [←hW0];simp [go_sem]
 have r2:W0.cell? ⟨w.heap.size+1+1,2,none⟩=some (.slice none 0 0):=by rw [←hW0];simp [go_sem]
 have fr0:W0.frozen? ⟨w.heap.size+1+1,0,none⟩=false:=by rw [←hW0];simp [go_sem]
 have fr1:W0.frozen? ⟨w.heap.size+1+1,1,none⟩=false:=by rw [←hW0];simp [go_sem]
 have fr2:W0.frozen? ⟨w.heap.size+1+1,2,none⟩=false:=by rw [←hW0];simp [go_sem]
 have hzr0:=zr
 have HR:=hide hR
 have HG:=hide hG
 have hW0s:=HB.out.size
 have HF:=hide (l4find_any o cap l i W0 ((hR.kept HB.out (Nat.le_refl _)).le HB.out.size) (by omega) hl)
 have HEND:=hide (run_end hl hc hm)
 have hmok:=doL_ok hl hc hm
 have hmlen:=doL_len hm
 have hpl':thereB l i=true:=by rcases doL_some hm with ⟨_,h,_⟩|⟨h,_⟩|⟨h,_⟩|⟨h,_⟩ <;> first|exact h|(exact absurd h hk1)
 rw [find_yes hpl',←hpl] at HF HEND
 have hge:(0:Int)≤(pl:Int):=by omega
 have HPLX:=hide hpl
 clear hpl
 clear hR hG hl hc
 have HPUT:=hide (fun t=> runM_put (l:=l) (k:=k) (i:=i) (g:=g) (fi:=(pl:Int)) t)
 have Z0:=z0
 have Z1:=z1
 have Z2:=z2
 have ZZ:=zz
 have U0:=u0
 have U1:=u1
 have U2:=u2
 have ZU:=zu
 have Q0:=r0
 have Q1:=r1
 have Q2:=r2
 have ZQ:=zr
 have FQ0:=fr0
 have FQ1:=fr1
 have FQ2:=fr2
 go_enter Tryz.func147,Tryz.ntmps147
 go_wp2_with fail
 refine HF.out.mono ?_
 rintro e w9 ⟨rfl,rfl⟩
 go_wp2
 go_loopw [7,8,9] (fun lv pv tv wr=> ∃t:Nat,t≤l.length∧tv=.int .i64 (t:Int)∧pv=.bool (runM l k i g ((pl:Int)) t).2∧Hid (ownK wr W0.heap.size lv (runM l k i g ((pl:Int)) t).1)∧Hid (Below W0.heap.size W0 wr))
  (fun _ _ tv _=> l.length - (intOf tv).toNat)
 case atStart=> exact ⟨0,Nat.zero_le _,rfl,by simp [runM,hk0,hk1],World.ownsRow_nil _ _ _ _,Below.refl _ _⟩
 case round=>
  obtain ⟨t,htl,rfl,rfl,HO,HBR⟩:=hrel
  clear HF z0 z1 z2 u0 u1 u2 r0 r1 r2 fr0 fr1 fr2 zz zu zr hW0
  have HBB:Hid (Below w.heap.size w wr):=HB.out.trans (HBR.out.mono hW0s)
  by_cases hlt:t < l.length
  ·skip
   have hlt':(t:Int) < (l.length:Int):=by omega
   have ht0:(0:Int)≤(t:Int):=by omega
   rcases HR.out with hR|⟨b,off,rfl,hbl,hcell⟩
   ·subst hR;simp at hlt
   obtain ⟨c0,c1,c2⟩:=RdL.back (C:=w.heap.size) hcell t hlt
   replace c0:=(HBB.out.cell (p:=⟨b,off+t * 3,none⟩) hbl).trans c0
   replace c1:=(HBB.out.cell (p:=⟨b,off+t * 3+1,none⟩) hbl).trans c1
   replace c2:=(HBB.out.cell (p:=⟨b,off+t * 3+2,none⟩) hbl).trans c2
   have hrl:=runM_len l k i g ((pl:Int)) t
   have HRS:=hide (show runM l k i g ((pl:Int)) (t+1)=stepM k i g ((pl:Int)) (runM l k i g ((pl:Int)) t) t (l.getD t (0,0,false)) from rfl)
   have hput:=HPUT.out t
   obtain ⟨x,y,u,hxyu⟩:∃x y u,l.getD t (0,0,false)=(x,y,u):=⟨_,_,_,rfl⟩
   rw [hxyu] at c0 c1 c2 HRS
   dsimp only at c0 c1 c2
   clear hxyu hcell
   obtain ⟨s1,s2,hs12⟩:∃s1 s2,runM l k i g ((pl:Int)) t=(s1,s2):=⟨_,_,rfl⟩
   rw [hs12] at HO HRS hrl hput ⊢
   dsimp only at HO hrl hput ⊢
   clear hs12 HEND HPUT
   have z1_wr:=bC HBR.out Z1 ZZ
   cases s2 with
   |false=> have:=hput rfl;simp [hk0] at this
   |true=>
    by_cases htp:t=pl
    ·subst htp
     have hteq:((t:Int)==(t:Int))=true:=beq_self_eq_true _
     by_cases h3:k=3
     ·subst h3
      have HRS2:=HRS.out
      unfold stepM at HRS2
      simp only [if_true,Bool.true_eq_false,false_and,if_false] at HRS2
      have HRN:=hide HRS2
      clear HRS HRS2
      (try have H1:=hide h1)
      (try have H3:=hide h3)
      (try clear h1 h3)
      (try clear h3)
      obtain ⟨W2,hW2⟩:∃W,wr.alloc (.cells #[.int .i64 x,.int .i64 y,.bool u] 226)=W:=⟨_,rfl⟩
      have HS2:Hid (St W0 W2 u7 s1 wr.heap.size x y u):=by rw [←hW2];exact St.start HO.out HBR.out
      have z1_W2:=bC HS2.out.bel Z1 ZZ
      have u0_W2:=bC HS2.out.bel U0 ZU
      have u1_W2:=bC HS2.out.bel U1 ZU
      have u2_W2:=bC HS2.out.bel U2 ZU
      have b0_W2:=bx_cell HS2.out.box 0 _ rfl
      have b1_W2:=bx_cell HS2.out.box 1 _ rfl
      have b2_W2:=bx_cell HS2.out.box 2 _ rfl
      have fb0_W2:=bx_frozen HS2.out.box 0
      have fb1_W2:=bx_frozen HS2.out.box 1
      have fb2_W2:=bx_frozen HS2.out.box 2
      have HSL:=HS2
      go_wp2
      go_roundw
      case rel=> exact ⟨t+1,by omega,by go_num,by rw [HRN.out],by rw [HRN.out];exact HSL.out.own,HSL.out.bel⟩
      case measure=> simp [intOf];omega
     ·have h3':(k==3)=false:=beq_eq_false_iff_ne.2 h3
      by_cases h1:k=1
      ·have h1':(k==1)=true:=beq_iff_eq.2 h1
       have HRS2:=HRS.out
       unfold stepM at HRS2
       simp only [if_true,if_neg h3,if_pos h1,Bool.true_eq_false,false_and,if_false] at HRS2
       have HRN:=hide HRS2
       clear HRS HRS2
       (try have H1:=hide h1)
       (try have H3:=hide h3)
       (try clear h1 h3)
       (try clear h3)
       obtain ⟨W2,hW2⟩:∃W,wr.alloc (.cells #[.int .i64 x,.int .i64 y,.bool u] 226)=W:=⟨_,rfl⟩
       have HS2:Hid (St W0 W2 u7 s1 wr.heap.size x y u):=by rw [←hW2];exact St.start HO.out HBR.out
       have z1_W2:=bC HS2.out.bel Z1 ZZ
       have u0_W2:=bC HS2.out.bel U0 ZU
       have u1_W2:=bC HS2.out.bel U1 ZU
       have u2_W2:=bC HS2.out.bel U2 ZU
       have b0_W2:=bx_cell HS2.out.box 0 _ rfl
       have b1_W2:=bx_cell HS2.out.box 1 _ rfl
       have b2_W2:=bx_cell HS2.out.box 2 _ rfl
       have fb0_W2:=bx_frozen HS2.out.box 0
       have fb1_W2:=bx_frozen HS2.out.box 1
       have fb2_W2:=bx_frozen HS2.out.box 2
       obtain ⟨W4,hW4⟩:∃W,W2.setCell ⟨wr.heap.size,1,none⟩ (.int .i64 g)=W:=⟨_,rfl⟩
       have HS4:Hid (St W0 W4 u7 s1 wr.heap.size x g u):=by rw [←hW4];exact HS2.out.put1 _
       have z1_W4:=bC HS4.out.bel Z1 ZZ
       have b0_W4:=bx_cell HS4.out.box 0 _ rfl
       have b1_W4:=bx_cell HS4.out.box 1 _ rfl
       have b2_W4:=bx_cell HS4.out.box 2 _ rfl
       go_wp2_with (at_builtin;refine wpList_append_lay appK0 rfl (.tmp 69) (.tmp 71) rfl W0.heap.size _ _ rfl (World.ownsRow.alloc HS4.out.own (.cells #[.int .i64 x,.int .i64 g,.bool u] 226)) (some ⟨W4.heap.size,0,none⟩) 1 (W4.alloc (.cells #[.int .i64 x,.int .i64 g,.bool u] 226)).heap.size [(x,g,u)] 1 rfl rfl (fun h=> by cases h) rd_oneK (by simp;omega) (by have:=HS4.out.bel.size;simp;omega) ?_)
       intro v6 w6 ho5 hg5 hn5
       have HSL:=hide (HS4.out.app ho5 hg5 hn5)
       clear ho5 hg5 hn5
       go_wp2
       go_roundw
       case rel=> exact ⟨t+1,by omega,by go_num,by rw [HRN.out],by rw [HRN.out];exact HSL.out.own,HSL.out.bel⟩
       case measure=> simp [intOf];omega
      ·have h1':(k==1)=false:=beq_eq_false_iff_ne.2 h1
       have HRS2:=HRS.out
       unfold stepM at HRS2
       simp only [if_true,if_neg h3,if_neg h1,Bool.true_eq_false,false_and,if_false] at HRS2
       have HRN:=hide HRS2
       clear HRS HRS2
       (try have H1:=hide h1)
       (try have H3:=hide h3)
       (try clear h1 h3)
       (try clear h3)
       obtain ⟨W2,hW2⟩:∃W,wr.alloc (.cells #[.int .i64 x,.int .i64 y,.bool u] 226)=W:=⟨_,rfl⟩
       have HS2:Hid (St W0 W2 u7 s1 wr.heap.size x y u):=by rw [←hW2];exact St.start HO.out HBR.out
       have z1_W2:=bC HS2.out.bel Z1 ZZ
       have u0_W2:=bC HS2.out.bel U0 ZU
       have u1_W2:=bC HS2.out.bel U1 ZU
       have u2_W2:=bC HS2.out.bel U2 ZU
       have b0_W2:=bx_cell HS2.out.box 0 _ rfl
       have b1_W2:=bx_cell HS2.out.box 1 _ rfl
       have b2_W2:=bx_cell HS2.out.box 2 _ rfl
       have fb0_W2:=bx_frozen HS2.out.box 0
       have fb1_W2:=bx_frozen HS2.out.box 1
       have fb2_W2:=bx_frozen HS2.out.box 2
       obtain ⟨W4,hW4⟩:∃W,W2.setCell ⟨wr.heap.size,2,none⟩ (.bool true)=W:=⟨_,rfl⟩
       have HS4:Hid (St W0 W4 u7 s1 wr.heap.size x y true):=by rw [←hW4];exact HS2.out.put2 _
       have z1_W4:=bC HS4.out.bel Z1 ZZ
       have b0_W4:=bx_cell HS4.out.box 0 _ rfl
       have b1_W4:=bx_cell HS4.out.box 1 _ rfl
       have b2_W4:=bx_cell HS4.out.box 2 _ rfl
       go_wp2_with (at_builtin;refine wpList_append_lay appK0 rfl (.tmp 69) (.tmp 71) rfl W0.heap.size _ _ rfl (World.ownsRow.alloc HS4.out.own (.cells #[.int .i64 x,.int .i64 y,.bool true] 226)) (some ⟨W4.heap.size,0,none⟩) 1 (W4.alloc (.cells #[.int .i64 x,.int .i64 y,.bool true] 226)).heap.size [(x,y,true)] 1 rfl rfl (fun h=> by cases h) rd_oneK (by simp;omega) (by have:=HS4.out.bel.size;simp;omega) ?_)
       intro v6 w6 ho5 hg5 hn5
       have HSL:=hide (HS4.out.app ho5 hg5 hn5)
       clear ho5 hg5 hn5
       go_wp2
       go_roundw
       case rel=> exact ⟨t+1,by omega,by go_num,by rw [HRN.out],by rw [HRN.out];exact HSL.out.own,HSL.out.bel⟩
       case measure=> simp [intOf];omega
    ·have hne:((t:Int)==(pl:Int))=false:=beq_eq_false_iff_ne.2 (by omega)
     have hne2:¬((t:Int)=(pl:Int)):=by omega
     have HRS2:=HRS.out
     unfold stepM at HRS2
     simp only [hne2,Bool.true_eq_false,false_and,if_false] at HRS2
     have HRN:=hide HRS2
     clear HRS HRS2
     (try have H1:=hide h1)
     (try have H3:=hide h3)
     (try clear h1 h3)
     (try clear h3)
     obtain ⟨W2,hW2⟩:∃W,wr.alloc (.cells #[.int .i64 x,.int .i64 y,.bool u] 226)=W:=⟨_,rfl⟩
     have HS2:Hid (St W0 W2 u7 s1 wr.heap.size x y u):=by rw [←hW2];exact St.start HO.out HBR.out
     have z1_W2:=bC HS2.out.bel Z1 ZZ
     have u0_W2:=bC HS2.out.bel U0 ZU
     have u1_W2:=bC HS2.out.bel U1 ZU
     have u2_W2:=bC HS2.out.bel U2 ZU
     have b0_W2:=bx_cell HS2.out.box 0 _ rfl
     have b1_W2:=bx_cell HS2.out.box 1 _ rfl
     have b2_W2:=bx_cell HS2.out.box 2 _ rfl
     have fb0_W2:=bx_frozen HS2.out.box 0
     have fb1_W2:=bx_frozen HS2.out.box 1
     have fb2_W2:=bx_frozen HS2.out.box 2
     go_wp2_with (at_builtin;refine wpList_append_lay appK0 rfl (.tmp 69) (.tmp 71) rfl W0.heap.size _ _ rfl (World.ownsRow.alloc HS2.out.own (.cells #[.int .i64 x,.int .i64 y,.bool u] 226)) (some ⟨W2.heap.size,0,none⟩) 1 (W2.alloc (.cells #[.int .i64 x,.int .i64 y,.bool u] 226)).heap.size [(x,y,u)] 1 rfl rfl (fun h=> by cases h) rd_oneK (by simp;omega) (by have:=HS2.out.bel.size;simp;omega) ?_)
     intro v6 w6 ho5 hg5 hn5
     have HSL:=hide (HS2.out.app ho5 hg5 hn5)
     clear ho5 hg5 hn5
     go_wp2
     go_roundw
     case rel=> exact ⟨t+1,by omega,by go_num,by rw [HRN.out],by rw [HRN.out];exact HSL.out.own,HSL.out.bel⟩
     case measure=> simp [intOf];omega
  ·have e:t=l.length:=by omega
   subst e
   obtain ⟨s1,s2,hs12⟩:∃s1 s2,runM l k i g ((pl:Int)) l.length=(s1,s2):=⟨_,_,rfl⟩
   have hrl:=runM_len l k i g ((pl:Int)) l.length
   have hput:=HPUT.out l.length
   rw [hs12] at HO HEND hrl hput ⊢
   dsimp only at HO hrl hput ⊢
   clear hs12 HPUT hlt
   have z1_wr:=bC HBR.out Z1 ZZ
   have u1_wr:=bC HBR.out U1 ZU
   have u2_wr:=bC HBR.out U2 ZU
   cases s2 with
   |true=>
    obtain rfl:m=s1:=HEND.out.symm
    have HOt:=HO
    have HBt:=HBR
    obtain ⟨o2,c2,e2,rd2⟩:=ownL.open (L:=layK) HOt.out
    have hcap2:=hide (own_capO HOt.out e2)
    subst e2
    have HRD:=hide rd2
    clear rd2 hput
    have HBt2:Hid (Below w.heap.size w wr):=HB.out.trans (HBt.out.mono hW0s)
    have hszt:=HBt.out.size
    have HRH:=hide (HG.out.kept HBt2.out (Nat.le_refl _))
    clear HG
    have z0_wrt:=bC HBt.out Z0 ZZ
    have z2_wrt:=bC HBt.out Z2 ZZ
    have q0_wrt:=bC HBt.out Q0 ZQ
    have q1_wrt:=bC HBt.out Q1 ZQ
    have q2_wrt:=bC HBt.out Q2 ZQ
    have hml:m.length≤1000:=by omega
    go_upto_region 21 with fail
    go_cut [11] from 83 to 94 (fun s11 wx=> ∃B v',s11=.pointer (some ⟨B,0,none⟩)∧Hid (wx.heap[B]? =some (.cells #[.int .i64 key,.slice o2 m.length c2,v'] 46 (0,0)))∧Hid (Below wr.heap.size wr wx)∧wr.heap.size≤B∧B < wx.heap.size∧Hid (RingO wx wr.heap.size v' (fun b=> pairI key b m) hsR))
    case first=>
     have hzW:w.heap.size < wr.heap.size:=by have:=ZZ;omega
     go_region_held3 (fun w'=> w'.cell? ⟨w.heap.size,0,none⟩=some (.int .i64 key)∧w'.cell? ⟨w.heap.size,2,none⟩=some (.slice oR hsR.length cR)) (first|with_reducible exact ⟨k1_0,k1_1⟩|with_reducible exact ⟨k0_0,k0_1⟩|with_reducible exact ⟨z0_wrt,z2_wrt⟩|with_reducible exact ⟨setP_cell k1_0 (show w.heap.size < wr.heap.size by omega),setP_cell k1_1 (show w.heap.size < wr.heap.size by omega)⟩|with_reducible exact ⟨setP_cell k1_0 (show w.heap.size < x0.heap.size by omega),setP_cell k1_1 (show w.heap.size < x0.heap.size by omega)⟩|with_reducible exact ⟨setP_cell k1_0 (show w.heap.size < x0.heap.size+1 by omega),setP_cell k1_1 (show w.heap.size < x0.heap.size+1 by omega)⟩|go_keep) (first|(go_at_call 190;have hc_:=l3tableO_any key o2 c2 m wr.drew ((HRD.out.kept (Below.drew (Below.refl _ _)) (Nat.le_refl _)).le (by simp)) hml hk hmok;with_reducible refine hc_.mono ?_;clear hc_;rintro e x0 ⟨o3,c3,hs3,rfl,ow3,tb3,hb⟩;have hp0:Below wr.heap.size wr x0:=Below.trans (show Below wr.heap.size wr wr.drew from (Below.drew (Below.refl _ _))) (hb.mono (by simp));have sp0:=hp0.size;have ow3:=own_mono ow3 (show wr.heap.size≤_ by simp);have tb3:=Tab.mono tb3 (show wr.heap.size≤_ by simp);have k0_0:=bC hp0 z0_wrt hzW;have k0_1:=bC hp0 z2_wrt hzW;clear hb)|(go_at_call 190;have hc_:=l3tableO_any key o2 c2 m (wr.alloc (.cells #[.int .i64 0,.slice none 0 0,.slice none 0 0] 46)).drew ((HRD.out.kept (Below.drew ((Below.refl _ _).alloc (Nat.le_refl _) _)) (Nat.le_refl _)).le (by simp)) hml hk hmok;with_reducible refine hc_.mono ?_;clear hc_;rintro e x0 ⟨o3,c3,hs3,rfl,ow3,tb3,hb⟩;have hp0:Below wr.heap.size wr x0:=Below.trans (show Below wr.heap.size wr (wr.alloc (.cells #[.int .i64 0,.slice none 0 0,.slice none 0 0] 46)).drew from (Below.drew ((Below.refl _ _).alloc (Nat.le_refl _) _))) (hb.mono (by simp));have sp0:=hp0.size;have ow3:=own_mono ow3 (show wr.heap.size≤_ by simp);have tb3:=Tab.mono tb3 (show wr.heap.size≤_ by simp);have k0_0:=bC hp0 z0_wrt hzW;have k0_1:=bC hp0 z2_wrt hzW;have hZ0:=box_newA hb;have hzl0:=(Array.getElem?_eq_some_iff.1 hZ0).1;clear hb)|(have hbv:Below x0.heap.size x0 (x0.alloc (.cells #[.slice o3 8 c3] 228)):=((Below.refl x0.heap.size x0).alloc (Nat.le_refl _) (.cells #[.slice o3 8 c3] 228));have own_:ownL layH 228 (x0.alloc (.cells #[.slice o3 8 c3] 228)) wr.heap.size (.slice (some ⟨x0.heap.size,0,none⟩) 1 1) [(o3,8,c3)]:=own_mono (one_own x0 o3 8 c3 _) (by (try simp) <;> omega);have hbw:Below w.heap.size w (x0.alloc (.cells #[.slice o3 8 c3] 228)):=HBt2.out.trans ((hp0.mono HBt2.out.size).trans (hbv.mono (Nat.le_trans HBt2.out.size sp0)));refine step_append_lay appHT rfl (.tmp 90) (.tmp 92) rfl wr.heap.size (.slice (some ⟨x0.heap.size,0,none⟩) 1 1) [(o3,8,c3)] rfl own_ oR cR w.heap.size hsR hsR.length rfl rfl hnR (HRH.out.kept (hp0.trans (hbv.mono sp0)) HBt2.out.size) (by simp;omega) (by simp;omega) ?_;intro v4 x1 ho4 hg4 hn4;have hr4:=ring_app own_ (own_kept ow3 hbv) (tb3.kept hbv) ho4 hg4;obtain ⟨g4,c4,e4⟩:=RingO.isSome hr4;subst e4;have hp1:Below wr.heap.size wr x1:=(hp0.trans (hbv.mono sp0)).grown hg4 (by (try simp) <;> omega) (fun k h=> (own_.lt k h).1);have sp1:=hp1.size;have k1_0:=bC hp1 z0_wrt hzW;have k1_1:=bC hp1 z2_wrt hzW;(try have hZ1:=box_far hg4 ((Below.heap_alloc _ _ _ hzl0).trans hZ0) (Nat.ne_of_lt hzl0));(try have hzc1_0:=bx_cell hZ1 0 _ rfl);(try have hzf1_0:=bx_frozen hZ1 0);(try have hzc1_1:=bx_cell hZ1 1 _ rfl);(try have hzf1_1:=bx_frozen hZ1 1);(try have hzc1_2:=bx_cell hZ1 2 _ rfl);(try have hzf1_2:=bx_frozen hZ1 2);clear ho4 hg4 hn4 own_ hbw hbv)|(have hbv:Below x0.heap.size x0 ((x0.alloc (.cells #[.int .i64 0,.slice none 0 0,.slice none 0 0] 46)).alloc (.cells #[.slice o3 8 c3] 228)):=(((Below.refl x0.heap.size x0).alloc (Nat.le_refl _) (.cells #[.int .i64 0,.slice none 0 0,.slice none 0 0] 46)).alloc (by simp) (.cells #[.slice o3 8 c3] 228));have own_:ownL layH 228 ((x0.alloc (.cells #[.int .i64 0,.slice none 0 0,.slice none 0 0] 46)).alloc (.cells #[.slice o3 8 c3] 228)) wr.heap.size (.slice (some ⟨x0.heap.size+1,0,none⟩) 1 1) [(o3,8,c3)]:=own_mono (one_own1 x0 (.cells #[.int .i64 0,.slice none 0 0,.slice none 0 0] 46) o3 8 c3 _) (by (try simp) <;> omega);have hbw:Below w.heap.size w ((x0.alloc (.cells #[.int .i64 0,.slice none 0 0,.slice none 0 0] 46)).alloc (.cells #[.slice o3 8 c3] 228)):=HBt2.out.trans ((hp0.mono HBt2.out.size).trans (hbv.mono (Nat.le_trans HBt2.out.size sp0)));refine step_append_lay appHT rfl (.tmp 90) (.tmp 92) rfl wr.heap.size (.slice (some ⟨x0.heap.size+1,0,none⟩) 1 1) [(o3,8,c3)] rfl own_ oR cR w.heap.size hsR hsR.length rfl rfl hnR (HRH.out.kept (hp0.trans (hbv.mono sp0)) HBt2.out.size) (by simp;omega) (by simp;omega) ?_;intro v4 x1 ho4 hg4 hn4;have hr4:=ring_app own_ (own_kept ow3 hbv) (tb3.kept hbv) ho4 hg4;obtain ⟨g4,c4,e4⟩:=RingO.isSome hr4;subst e4;have hp1:Below wr.heap.size wr x1:=(hp0.trans (hbv.mono sp0)).grown hg4 (by (try simp) <;> omega) (fun k h=> (own_.lt k h).1);have sp1:=hp1.size;have k1_0:=bC hp1 z0_wrt hzW;have k1_1:=bC hp1 z2_wrt hzW;have hZ2:=box_far hg4 (box_old2 x0 #[.int .i64 0,.slice none 0 0,.slice none 0 0] 46 (.cells #[.slice o3 8 c3] 228)) (Nat.ne_of_lt (Nat.lt_succ_self _));(try have hzc2_0:=bx_cell hZ2 0 _ rfl);(try have hzf2_0:=bx_frozen hZ2 0);(try have hzc2_1:=bx_cell hZ2 1 _ rfl);(try have hzf2_1:=bx_frozen hZ2 1);(try have hzc2_2:=bx_cell hZ2 2 _ rfl);(try have hzf2_2:=bx_frozen hZ2 2);clear ho4 hg4 hn4 own_ hbw hbv)|(have hbv:Below x0.heap.size x0 ((x0.alloc (.cells #[.slice o3 8 c3] 228)).alloc (.cells #[.int .i64 0,.slice none 0 0,.slice none 0 0] 46)):=(((Below.refl x0.heap.size x0).alloc (Nat.le_refl _) (.cells #[.slice o3 8 c3] 228)).alloc (by simp) (.cells #[.int .i64 0,.slice none 0 0,.slice none 0 0] 46));have own_:ownL layH 228 ((x0.alloc (.cells #[.slice o3 8 c3] 228)).alloc (.cells #[.int .i64 0,.slice none 0 0,.slice none 0 0] 46)) wr.heap.size (.slice (some ⟨x0.heap.size,0,none⟩) 1 1) [(o3,8,c3)]:=own_mono (World.ownsRow.alloc (one_own x0 o3 8 c3 _) (.cells #[.int .i64 0,.slice none 0 0,.slice none 0 0] 46)) (by (try simp) <;> omega);have hbw:Below w.heap.size w ((x0.alloc (.cells #[.slice o3 8 c3] 228)).alloc (.cells #[.int .i64 0,.slice none 0 0,.slice none 0 0] 46)):=HBt2.out.trans ((hp0.mono HBt2.out.size).trans (hbv.mono (Nat.le_trans HBt2.out.size sp0)));refine step_append_lay appHT rfl (.tmp 90) (.tmp 92) rfl wr.heap.size (.slice (some ⟨x0.heap.size,0,none⟩) 1 1) [(o3,8,c3)] rfl own_ oR cR w.heap.size hsR hsR.length rfl rfl hnR (HRH.out.kept (hp0.trans (hbv.mono sp0)) HBt2.out.size) (by simp;omega) (by simp;omega) ?_;intro v4 x1 ho4 hg4 hn4;have hr4:=ring_app own_ (own_kept ow3 hbv) (tb3.kept hbv) ho4 hg4;obtain ⟨g4,c4,e4⟩:=RingO.isSome hr4;subst e4;have hp1:Below wr.heap.size wr x1:=(hp0.trans (hbv.mono sp0)).grown hg4 (by (try simp) <;> omega) (fun k h=> (own_.lt k h).1);have sp1:=hp1.size;have k1_0:=bC hp1 z0_wrt hzW;have k1_1:=bC hp1 z2_wrt hzW;have hZ3:=box_far hg4 (box_new2 x0 #[.int .i64 0,.slice none 0 0,.slice none 0 0] 46 (.cells #[.slice o3 8 c3] 228)) (Nat.ne_of_gt (Nat.lt_succ_self _));(try have hzc3_0:=bx_cell hZ3 0 _ rfl);(try have hzf3_0:=bx_frozen hZ3 0);(try have hzc3_1:=bx_cell hZ3 1 _ rfl);(try have hzf3_1:=bx_frozen hZ3 1);(try have hzc3_2:=bx_cell hZ3 2 _ rfl);(try have hzf3_2:=bx_frozen hZ3 2);clear ho4 hg4 hn4 own_ hbw hbv))
     all_goals (go_wp2_with fail;go_meet)
     all_goals first
      |with_reducible exact finP hZ1 hp1 (by omega) hr4
      |with_reducible exact finP hZ2 hp1 (by omega) hr4
      |with_reducible exact finP hZ3 hp1 (by omega) hr4
      |with_reducible exact finPn hp1 hr4
    case rest=>
    obtain ⟨B,v',rfl,Hbx,Hbl,hB1,hB2,Hr⟩:=hcut
    obtain ⟨g4,c4,e4⟩:=RingO.isSome Hr.out
    subst e4
    have hcap4:=RingO.cap Hr.out
    have hqz:=ZQ
    have hqz2:w.heap.size+1+1 < wr.heap.size:=by omega
    have hwc:=Hbl.out.size
    have qc0:=bC Hbl.out q0_wrt hqz2
    have fqc0:=bF Hbl.out (bF HBt.out FQ0 ZQ) hqz2
    have bc0:=bx_cell Hbx.out 0 _ rfl
    have fbc0:=bx_frozen Hbx.out 0
    have qc1:=bC Hbl.out q1_wrt hqz2
    have fqc1:=bF Hbl.out (bF HBt.out FQ1 ZQ) hqz2
    have bc1:=bx_cell Hbx.out 1 _ rfl
    have fbc1:=bx_frozen Hbx.out 1
    have qc2:=bC Hbl.out q2_wrt hqz2
    have fqc2:=bF Hbl.out (bF HBt.out FQ2 ZQ) hqz2
    have bc2:=bx_cell Hbx.out 2 _ rfl
    have fbc2:=bx_frozen Hbx.out 2
    clear z0_wrt z2_wrt q0_wrt q1_wrt q2_wrt
    have HOw:=hide (own_kept HOt.out Hbl.out)
    have HBw:Hid (Below w.heap.size w wc):=HBt2.out.trans (Hbl.out.mono HBt2.out.size)
    have hne1:B≠w.heap.size+1+1:=by omega
    have hne2:w.heap.size+1+1≠B:=by omega
    by_cases h4:hsR.length=3
    ·skip
     have h4':(hsR.length:Int)=3:=by omega
     have h41:3≤c4:=by omega
     obtain ⟨W5,hW5⟩:∃W,wc.setCell ⟨B,2,none⟩ (.slice (some ⟨g4,0,none⟩) 3 c4)=W:=⟨_,rfl⟩
     have hW5b:W5.heap[B]? =some (.cells #[.int .i64 key,.slice o2 m.length c2,.slice (some ⟨g4,0,none⟩) 3 c4] 46 (0,0)):=by rw [←hW5];exact box_put Hbx.out 2 _
     have b50:=bx_cell hW5b 0 _ rfl
     have q50:W5.cell? ⟨w.heap.size+1+1,0,none⟩=some (.int .i64 0):=by rw [←hW5];exact (cell_far hne2).trans qc0
     have fq50:W5.frozen? ⟨w.heap.size+1+1,0,none⟩=false:=by rw [←hW5];exact (frozen_far hne2).trans fqc0
     have b51:=bx_cell hW5b 1 _ rfl
     have q51:W5.cell? ⟨w.heap.size+1+1,1,none⟩=some (.slice none 0 0):=by rw [←hW5];exact (cell_far hne2).trans qc1
     have fq51:W5.frozen? ⟨w.heap.size+1+1,1,none⟩=false:=by rw [←hW5];exact (frozen_far hne2).trans fqc1
     have b52:=bx_cell hW5b 2 _ rfl
     have q52:W5.cell? ⟨w.heap.size+1+1,2,none⟩=some (.slice none 0 0):=by rw [←hW5];exact (cell_far hne2).trans qc2
     have fq52:W5.frozen? ⟨w.heap.size+1+1,2,none⟩=false:=by rw [←hW5];exact (frozen_far hne2).trans fqc2
     have HO5:Hid (ownK W5 W0.heap.size (.slice o2 m.length c2) m):=by rw [←hW5];exact own_putB HOw.out Hbx.out neP4 2 _
     have HR5:Hid (RingO W5 wr.heap.size (.slice (some ⟨g4,0,none⟩) (hsR.length+1) c4) (fun b=> pairI key b m) hsR):=by rw [←hW5];exact Hr.out.put Hbx.out 2 _
     have HB5:Hid (Below w.heap.size w W5):=by rw [←hW5];exact HBw.out.setCell (p:=⟨B,2,none⟩) (show w.heap.size≤B by have:=HBt2.out.size;omega) _
     obtain ⟨o3,c3,hs3,rg1,rg2,rg3⟩:=((HR5.out.low hqz2 0 (.int .i64 key)).low hqz2 1 (.slice o2 m.length c2)).low hqz2 2 (.slice (some ⟨g4,0,none⟩) 3 c4)
     have HG1:=hide rg1
     have HG2:=hide rg2
     have HG3:=hide rg3
     clear rg1 rg2 rg3
     go_wp2
     refine bodyPost_ret (v:=.tuple #[plv key (.slice o2 m.length c2) (.slice (some ⟨g4,0,none⟩) 3 c4),.bool true]) (by simp [results,Tryz.results147,go_sem,q50,q51,q52]) rfl ?_
     unfold DoPost
     refine ⟨o2,c2,some ⟨g4,0,none⟩,3,c4,o3,c3,hs3,rfl, ?_, ?_, ?_,own_mono HG2.out (by omega),Tab.mono HG3.out (by omega), ?_⟩
     ·simp;omega
     ·exact own_mono (own_low (own_low (own_low HO5.out ZQ 0 _) ZQ 1 _) ZQ 2 _) hW0s
     ·exact own_mono (own_head3 HG1.out (by simp;omega)) (by omega)
     ·exact ((HB5.out.setCell (p:=⟨w.heap.size+1+1,0,none⟩) (by (try simp) <;> omega) _).setCell (p:=⟨w.heap.size+1+1,1,none⟩) (by (try simp) <;> omega) _).setCell (p:=⟨w.heap.size+1+1,2,none⟩) (by (try simp) <;> omega) _
    ·skip
     have h4':¬((hsR.length:Int)+1 > 3):=by omega
     have h4d:decide (3 < (hsR.length:Int)+1)=false:=decide_eq_false (by omega)
     obtain ⟨o3,c3,hs3,rg1,rg2,rg3⟩:=((Hr.out.low hqz2 0 (.int .i64 key)).low hqz2 1 (.slice o2 m.length c2)).low hqz2 2 (.slice (some ⟨g4,0,none⟩) (hsR.length+1) c4)
     have HG1:=hide rg1
     have HG2:=hide rg2
     have HG3:=hide rg3
     clear rg1 rg2 rg3
     go_wp2
     refine bodyPost_ret (v:=.tuple #[plv key (.slice o2 m.length c2) (.slice (some ⟨g4,0,none⟩) (hsR.length+1) c4),.bool true]) (by simp [results,Tryz.results147,go_sem,qc0,qc1,qc2,hne1,hne2]) rfl ?_
     unfold DoPost
     refine ⟨o2,c2,some ⟨g4,0,none⟩,(hsR.length+1),c4,o3,c3,hs3,rfl, ?_, ?_, ?_,own_mono HG2.out (by omega),Tab.mono HG3.out (by omega), ?_⟩
     ·simp;omega
     ·exact own_mono (own_low (own_low (own_low HOw.out ZQ 0 _) ZQ 1 _) ZQ 2 _) hW0s
     ·have e:((o3,8,c3)::hsR).take 3=(o3,8,c3)::hsR:=List.take_of_length_le (by simp;omega)
      rw [e]
      exact own_mono HG1.out (by omega)
     ·exact ((HBw.out.setCell (p:=⟨w.heap.size+1+1,0,none⟩) (by (try simp) <;> omega) _).setCell (p:=⟨w.heap.size+1+1,1,none⟩) (by (try simp) <;> omega) _).setCell (p:=⟨w.heap.size+1+1,2,none⟩) (by (try simp) <;> omega) _
   |false=>
    have:=hput rfl
    simp [hk0] at this
structure Pm where
 key:Int
 l:List Bk
 ring:List (List (List Int))
def RiPm (lo hi:Nat) (w:World) (v:Value) (m:Pm):Prop:=∃vb vr,v=plv m.key vb vr∧RiV layK lo hi w vb m.l∧RiR lo hi w vr m.ring
abbrev RdPm (C:Nat) (w:World) (v:Value) (m:Pm):Prop:=RiPm 0 C w v m
def InPm (lo hi:Nat) (w:World) (v:Value) (m:Pm):Prop:=∃vb vr mid,v=plv m.key vb vr∧lo≤mid∧mid≤hi∧InL layK 226 lo mid w vb m.l∧InR mid hi w vr m.ring
theorem RiPm.step {a b lo hi:Nat} {w w':World} {v:Value} {m:Pm} (h:RiPm a b w v m) (s:Stp lo hi w w') (hd:hi≤a∨b≤lo):RiPm a b w' v m:=by
 obtain ⟨vb,vr,e,h1,h2⟩:=h
 exact ⟨vb,vr,e,h1.step s hd,RiR.stp.go h2 s hd⟩
theorem RiPm.mono {a b a' b':Nat} {w:World} {v:Value} {m:Pm} (h:RiPm a b w v m) (k1:a'≤a) (k2:b≤b'):RiPm a' b' w v m:=by
 obtain ⟨vb,vr,e,h1,h2⟩:=h
 exact ⟨vb,vr,e,h1.mono k1 k2,RiR.mon.go h2 k1 k2⟩
theorem RiPm.rd {lo hi:Nat} {w:World} {v:Value} {m:Pm} (h:RiPm lo hi w v m):RdPm hi w v m:=h.mono (Nat.zero_le _) (Nat.le_refl _)
theorem RiPm.le {lo C D:Nat} {w:World} {v:Value} {m:Pm} (h:RiPm lo C w v m) (hc:C≤D):RiPm lo D w v m:=h.mono (Nat.le_refl _) hc
theorem RiPm.kept {lo C D:Nat} {w w':World} {v:Value} {m:Pm} (h:RiPm lo C w v m) (hb:Below D w w') (hc:C≤D):RiPm lo C w' v m:=
 h.step (lo:=C) (hi:=w.heap.size+C) ⟨hb.os,hb.tape,hb.output,hb.size,fun k hk hn=> hb.block k (by omega)⟩ (.inr (Nat.le_refl _))
theorem InPm.step {a b lo hi:Nat} {w w':World} {v:Value} {m:Pm} (h:InPm a b w v m) (s:Stp lo hi w w') (hd:hi≤a∨b≤lo):InPm a b w' v m:=by
 obtain ⟨vb,vr,mid,e,k1,k2,h1,h2⟩:=h
 exact ⟨vb,vr,mid,e,k1,k2,InRow.step h1 s (by omega),InR.stp.go h2 s (by omega)⟩
theorem InPm.ri {lo hi:Nat} {w:World} {v:Value} {m:Pm} (h:InPm lo hi w v m):RiPm lo hi w v m:=by
 obtain ⟨vb,vr,mid,e,k1,k2,h1,h2⟩:=h
 exact ⟨vb,vr,e,(InRow.ri h1).mono (Nat.le_refl _) k2,RiR.mon.go (InR.ri h2) k1 (Nat.le_refl _)⟩
theorem InPm.rd {lo hi:Nat} {w:World} {v:Value} {m:Pm} (h:InPm lo hi w v m):RdPm hi w v m:=h.ri.rd
theorem RiR.len {lo hi:Nat} {w:World} {v:Value} {lll:List (List (List Int))} (h:RiR lo hi w v lll):∃o c,v=.slice o lll.length c:=by
 obtain ⟨hs,h0,⟨o,c,e,_⟩,_⟩:=h
 exact ⟨o,c,by rw [e,h0]⟩
theorem RiPm.opn {lo hi:Nat} {w:World} {v:Value} {m:Pm} (h:RiPm lo hi w v m):∃(o:Option Addr) (c:Nat) (oR:Option Addr) (cR:Nat),v=plv m.key (.slice o m.l.length c) (.slice oR m.ring.length cR):=by
 obtain ⟨vb,vr,e,⟨o,c,e1,_⟩,h2⟩:=h
 obtain ⟨oR,cR,e2⟩:=RiR.len h2
 exact ⟨o,c,oR,cR,by rw [e,e1,e2]⟩
theorem InPm.opn {lo hi:Nat} {w:World} {v:Value} {m:Pm} (h:InPm lo hi w v m):∃(o:Option Addr) (c:Nat) (oR:Option Addr) (cR:Nat),v=plv m.key (.slice o m.l.length c) (.slice oR m.ring.length cR):=h.ri.opn
def fitPm (m:Pm):Prop:=m.l.length≤1048576∧m.ring.length≤1048576∧szR m.ring≤1048576∧(∀i,i < m.ring.length→(m.ring.getD i []).length≤1048576)∧∀i,i < m.ring.length→∀j,j < (m.ring.getD i []).length→((m.ring.getD i []).getD j []).length≤1048576
theorem eqPool_sh (v1 v2:Value) (m:Pm) (w:World) (h1:RdPm w.heap.size w v1 m) (h2:RdPm w.heap.size w v2 m) (hf:fitPm m):
  Calls Tryz.prog 106 #[v1,v2] w fun e w'=> e=.returned (.bool true)∧Below w.heap.size w w':=by
 obtain ⟨vb1,vr1,rfl,⟨o1,c1,rfl,b1⟩,r1⟩:=h1
 obtain ⟨vb2,vr2,rfl,⟨o2,c2,rfl,b2⟩,r2⟩:=h2
 obtain ⟨oR1,cR1,rfl⟩:=RiR.len r1
 obtain ⟨oR2,cR2,rfl⟩:=RiR.len r2
 obtain ⟨hf1,hf2,hf3,hf4,hf5⟩:=hf
 have HBK:=hide (fun W (hb:Below w.heap.size w W)=> eqBackS_same o1 o2 c1 c2 m.l W ((b1.rd.kept hb (Nat.le_refl _)).le hb.size) ((b2.rd.kept hb (Nat.le_refl _)).le hb.size) hf1)
 have HRG:=hide (fun W (hb:Below w.heap.size w W)=> eqIntSSS_same (.slice oR1 m.ring.length cR1) (.slice oR2 m.ring.length cR2) m.ring W (RiR.mon.go (RiR.stp.go r1 (Stp.of (lo:=0) (hi:=0) hb) (.inl (Nat.zero_le _))) (Nat.le_refl _) hb.size) (RiR.mon.go (RiR.stp.go r2 (Stp.of (lo:=0) (hi:=0) hb) (.inl (Nat.zero_le _))) (Nat.le_refl _) hb.size) hf2 hf4 hf5)
 clear b1 b2 r1 r2 hf4 hf5
 obtain ⟨W0,hW0⟩:∃W,((w.alloc (.cells #[.int .i64 m.key,.slice o1 m.l.length c1,.slice oR1 m.ring.length cR1] 46)).alloc (.cells #[.int .i64 m.key,.slice o2 m.l.length c2,.slice oR2 m.ring.length cR2] 46))=W:=⟨_,rfl⟩
 have hb_W0:Below w.heap.size w W0:=by rw [←hW0];exact (((Below.refl _ _).alloc (Nat.le_refl _) _).alloc (by simp <;> omega) _)
 have HB:=hide hb_W0
 clear hb_W0
 have zz:w.heap.size < W0.heap.size:=by rw [←hW0];simp <;> omega
 have z0:W0.cell? ⟨w.heap.size,0,none⟩=some (.int .i64 m.key):=by rw [←hW0];simp [go_sem]
 have z1:W0.cell? ⟨w.heap.size,1,none⟩=some (.slice o1 m.l.length c1):=by rw [←hW0];simp [go_sem]
 have z2:W0.cell? ⟨w.heap.size,2,none⟩=some (.slice oR1 m.ring.length cR1):=by rw [←hW0];simp [go_sem]
 have zu:w.heap.size+1 < W0.heap.size:=by rw [←hW0];simp
 have u0:W0.cell? ⟨w.heap.size+1,0,none⟩=some (.int .i64 m.key):=by rw [←hW0];simp [go_sem]
 have u1:W0.cell? ⟨w.heap.size+1,1,none⟩=some (.slice o2 m.l.length c2):=by rw [←hW0];simp [go_sem]
 have u2:W0.cell? ⟨w.heap.size+1,2,none⟩=some (.slice oR2 m.ring.length cR2):=by rw [←hW0];simp [go_sem]
 go_enter Tryz.func106,Tryz.ntmps106
 go_wp2_with fail
 refine (HBK.out W0 HB.out).mono ?_
 rintro e v1 ⟨rfl,hb⟩
 replace z0:=bC hb z0 zz
 replace z1:=bC hb z1 zz
 replace z2:=bC hb z2 zz
 replace zz:=Nat.lt_of_lt_of_le zz hb.size
 replace u0:=bC hb u0 zu
 replace u1:=bC hb u1 zu
 replace u2:=bC hb u2 zu
 replace zu:=Nat.lt_of_lt_of_le zu hb.size
 replace HB:=hide (HB.out.trans (hb.mono HB.out.size))
 clear hb
 go_wp2_with fail
 refine (HRG.out v1 HB.out).mono ?_
 rintro e v2 ⟨rfl,hb⟩
 replace z0:=bC hb z0 zz
 replace z1:=bC hb z1 zz
 replace z2:=bC hb z2 zz
 replace zz:=Nat.lt_of_lt_of_le zz hb.size
 replace u0:=bC hb u0 zu
 replace u1:=bC hb u1 zu
 replace u2:=bC hb u2 zu
 replace zu:=Nat.lt_of_lt_of_le zu hb.size
 replace HB:=hide (HB.out.trans (hb.mono HB.out.size))
 clear hb
 go_wp2
 go_ret
 exact ⟨rfl,HB.out⟩
structure Bm where
 j:Jm
 p:Pm
 t:List Sl
abbrev balv (kj:Int) (vl:Value) (sf kp:Int) (vb vr vt:Value):Value:=.agg #[.int .i64 kj,vl,.int .i64 sf,.int .i64 kp,vb,vr,vt]
def RdBm (C:Nat) (w:World) (v:Value) (m:Bm):Prop:=∃vl vb vr vt,v=balv m.j.key vl m.j.safe m.p.key vb vr vt∧RdJm C w (jrn m.j.key vl m.j.safe) m.j∧RdPm C w (plv m.p.key vb vr) m.p∧RdT C w (tab vt) m.t
def InBm (lo hi:Nat) (w:World) (v:Value) (m:Bm):Prop:=∃vl vb vr vt j0 j1 p0 p1 t0 t1,v=balv m.j.key vl m.j.safe m.p.key vb vr vt∧(lo≤j0∧j1≤hi∧lo≤p0∧p1≤hi∧lo≤t0∧t1≤hi∧(j1≤p0∨p1≤j0)∧(j1≤t0∨t1≤j0)∧(p1≤t0∨t1≤p0))∧InJm j0 j1 w (jrn m.j.key vl m.j.safe) m.j∧InPm p0 p1 w (plv m.p.key vb vr) m.p∧InTb t0 t1 w (tab vt) m.t
theorem RdBm.kept {C D:Nat} {w w':World} {v:Value} {m:Bm} (h:RdBm C w v m) (hb:Below D w w') (hc:C≤D):RdBm C w' v m:=by
 obtain ⟨vl,vb,vr,vt,e,h1,h2,h3⟩:=h
 exact ⟨vl,vb,vr,vt,e,h1.kept hb hc,h2.kept hb hc,h3.kept hb hc⟩
theorem RdBm.le {C D:Nat} {w:World} {v:Value} {m:Bm} (h:RdBm C w v m) (hc:C≤D):RdBm D w v m:=by
 obtain ⟨vl,vb,vr,vt,e,h1,h2,h3⟩:=h
 exact ⟨vl,vb,vr,vt,e,h1.le hc,h2.le hc,h3.le hc⟩
theorem InBm.rd {lo hi:Nat} {w:World} {v:Value} {m:Bm} (h:InBm lo hi w v m):RdBm hi w v m:=by
 obtain ⟨vl,vb,vr,vt,j0,j1,p0,p1,t0,t1,e,k,h1,h2,h3⟩:=h
 exact ⟨vl,vb,vr,vt,e,h1.rd.le (by omega),h2.rd.le (by omega),h3.rd.le (by omega)⟩
theorem InBm.step {x y lo hi:Nat} {w w':World} {v:Value} {m:Bm} (h:InBm x y w v m) (s:Stp lo hi w w') (hd:hi≤x∨y≤lo):InBm x y w' v m:=by
 obtain ⟨vl,vb,vr,vt,j0,j1,p0,p1,t0,t1,e,k,h1,h2,h3⟩:=h
 exact ⟨vl,vb,vr,vt,j0,j1,p0,p1,t0,t1,e,k,h1.step s (by omega),h2.step s (by omega),h3.step s (by omega)⟩
theorem RdBm.opn {C:Nat} {w:World} {v:Value} {m:Bm} (h:RdBm C w v m):∃(o:Option Addr) (c:Nat) (ob:Option Addr) (cb:Nat) (oR:Option Addr) (cR:Nat) (ot:Option Addr) (ct:Nat),v=balv m.j.key (.slice o m.j.l.length c) m.j.safe m.p.key (.slice ob m.p.l.length cb) (.slice oR m.p.ring.length cR) (.slice ot m.t.length ct):=by
 obtain ⟨vl,vb,vr,vt,e,⟨vl',e1,o,c,e1',_⟩,h2,⟨vt',e3,ot,ct,e3',_⟩⟩:=h
 obtain ⟨ob,cb,oR,cR,e2⟩:=h2.opn
 simp only [Value.agg.injEq,Array.mk.injEq,List.cons.injEq,and_true,true_and] at e1 e2 e3
 obtain ⟨e21,e22⟩:=e2
 subst e1 e1' e3 e3' e21 e22
 exact ⟨o,c,ob,cb,oR,cR,ot,ct,e⟩
def fitB0 (m:Bm):Prop:=m.j.l.length≤1048576∧fitPm m.p∧m.t.length≤1048576
theorem eqBal_sh (v1 v2:Value) (m:Bm) (w:World) (h1:RdBm w.heap.size w v1 m) (h2:RdBm w.heap.size w v2 m) (hf:fitB0 m):
  Calls Tryz.prog 50 #[v1,v2] w fun e w'=> e=.returned (.bool true)∧Below w.heap.size w w':=by
 obtain ⟨o1,c1,ob1,cb1,oR1,cR1,ot1,ct1,rfl⟩:=h1.opn
 obtain ⟨o2,c2,ob2,cb2,oR2,cR2,ot2,ct2,rfl⟩:=h2.opn
 obtain ⟨vl,vb,vr,vt,e,a1,a2,a3⟩:=h1
 simp only [Value.agg.injEq,Array.mk.injEq,List.cons.injEq,and_true,true_and] at e
 obtain ⟨e1,e2,e3,e4⟩:=e
 subst e1 e2 e3 e4
 obtain ⟨vl,vb,vr,vt,e,b1,b2,b3⟩:=h2
 simp only [Value.agg.injEq,Array.mk.injEq,List.cons.injEq,and_true,true_and] at e
 obtain ⟨e1,e2,e3,e4⟩:=e
 subst e1 e2 e3 e4
 have hfj:m.j.l.length≤1048576:=by have:=hf.1;omega
 have HJ:=hide (fun W (hb:Below w.heap.size w W)=> eqJournal_sh _ _ m.j W ((a1.kept hb (Nat.le_refl _)).le hb.size) ((b1.kept hb (Nat.le_refl _)).le hb.size) hfj)
 have HP:=hide (fun W (hb:Below w.heap.size w W)=> eqPool_sh _ _ m.p W ((a2.kept hb (Nat.le_refl _)).le hb.size) ((b2.kept hb (Nat.le_refl _)).le hb.size) hf.2.1)
 have HT:=hide (fun W (hb:Below w.heap.size w W)=> eqTable_sh _ _ m.t W ((a3.kept hb (Nat.le_refl _)).le hb.size) ((b3.kept hb (Nat.le_refl _)).le hb.size) hf.2.2)
 clear a1 a2 a3 b1 b2 b3 hfj
 obtain ⟨W0,hW0⟩:∃W,((w.alloc (.cells #[.int .i64 m.j.key,.slice o1 m.j.l.length c1,.int .i64 m.j.safe,.int .i64 m.p.key,.slice ob1 m.p.l.length cb1,.slice oR1 m.p.ring.length cR1,.slice ot1 m.t.length ct1] 51)).alloc (.cells #[.int .i64 m.j.key,.slice o2 m.j.l.length c2,.int .i64 m.j.safe,.int .i64 m.p.key,.slice ob2 m.p.l.length cb2,.slice oR2 m.p.ring.length cR2,.slice ot2 m.t.length ct2] 51))=W:=⟨_,rfl⟩
 have hb_W0:Below w.heap.size w W0:=by rw [←hW0];exact (((Below.refl _ _).alloc (Nat.le_refl _) _).alloc (by simp <;> omega) _)
 have HB:=hide hb_W0
 clear hb_W0
 have zz:w.heap.size < W0.heap.size:=by rw [←hW0];simp <;> omega
 have z0:W0.cell? ⟨w.heap.size,0,none⟩=some (.int .i64 m.j.key):=by rw [←hW0];simp [go_sem]
 have z1:W0.cell? ⟨w.heap.size,1,none⟩=some (.slice o1 m.j.l.length c1):=by rw [←hW0];simp [go_sem]
 have z2:W0.cell? ⟨w.heap.size,2,none⟩=some (.int .i64 m.j.safe):=by rw [←hW0];simp [go_sem]
 have z3:W0.cell? ⟨w.heap.size,3,none⟩=some (.int .i64 m.p.key):=by rw [←hW0];simp [go_sem]
 have z4:W0.cell? ⟨w.heap.size,4,none⟩=some (.slice ob1 m.p.l.length cb1):=by rw [←hW0];simp [go_sem]
 have z5:W0.cell? ⟨w.heap.size,5,none⟩=some (.slice oR1 m.p.ring.length cR1):=by rw [←hW0];simp [go_sem]
 have z6:W0.cell? ⟨w.heap.size,6,none⟩=some (.slice ot1 m.t.length ct1):=by rw [←hW0];simp [go_sem]
 have zu:w.heap.size+1 < W0.heap.size:=by rw [←hW0];simp
 have u0:W0.cell? ⟨w.heap.size+1,0,none⟩=some (.int .i64 m.j.key):=by rw [←hW0];simp [go_sem]
 have u1:W0.cell? ⟨w.heap.size+1,1,none⟩=some (.slice o2 m.j.l.length c2):=by rw [←hW0];simp [go_sem]
 have u2:W0.cell? ⟨w.heap.size+1,2,none⟩=some (.int .i64 m.j.safe):=by rw [←hW0];simp [go_sem]
 have u3:W0.cell? ⟨w.heap.size+1,3,none⟩=some (.int .i64 m.p.key):=by rw [←hW0];simp [go_sem]
 have u4:W0.cell? ⟨w.heap.size+1,4,none⟩=some (.slice ob2 m.p.l.length cb2):=by rw [←hW0];simp [go_sem]
 have u5:W0.cell? ⟨w.heap.size+1,5,none⟩=some (.slice oR2 m.p.ring.length cR2):=by rw [←hW0];simp [go_sem]
 have u6:W0.cell? ⟨w.heap.size+1,6,none⟩=some (.slice ot2 m.t.length ct2):=by rw [←hW0];simp [go_sem]
 go_enter Tryz.func50,Tryz.ntmps50
 go_wp2_with fail
 refine (HJ.out W0 HB.out).mono ?_
 rintro e v1 ⟨rfl,hb⟩
 replace z0:=bC hb z0 zz
 replace z1:=bC hb z1 zz
 replace z2:=bC hb z2 zz
 replace z3:=bC hb z3 zz
 replace z4:=bC hb z4 zz
 replace z5:=bC hb z5 zz
 replace z6:=bC hb z6 zz
 replace zz:=Nat.lt_of_lt_of_le zz hb.size
 replace u0:=bC hb u0 zu
 replace u1:=bC hb u1 zu
 replace u2:=bC hb u2 zu
 replace u3:=bC hb u3 zu
 replace u4:=bC hb u4 zu
 replace u5:=bC hb u5 zu
 replace u6:=bC hb u6 zu
 replace zu:=Nat.lt_of_lt_of_le zu hb.size
 replace HB:=hide (HB.out.trans (hb.mono HB.out.size))
 clear hb
 go_wp2_with fail
 refine (HP.out v1 HB.out).mono ?_
 rintro e v2 ⟨rfl,hb⟩
 replace z0:=bC hb z0 zz
 replace z1:=bC hb z1 zz
 replace z2:=bC hb z2 zz
 replace z3:=bC hb z3 zz
 replace z4:=bC hb z4 zz
 replace z5:=bC hb z5 zz
 replace z6:=bC hb z6 zz
 replace zz:=Nat.lt_of_lt_of_le zz hb.size
 replace u0:=bC hb u0 zu
 replace u1:=bC hb u1 zu
 replace u2:=bC hb u2 zu
 replace u3:=bC hb u3 zu
 replace u4:=bC hb u4 zu
 replace u5:=bC hb u5 zu
 replace u6:=bC hb u6 zu
 replace zu:=Nat.lt_of_lt_of_le zu hb.size
 replace HB:=hide (HB.out.trans (hb.mono HB.out.size))
 clear hb
 go_wp2_with fail
 refine (HT.out v2 HB.out).mono ?_
 rintro e v3 ⟨rfl,hb⟩
 replace z0:=bC hb z0 zz
 replace z1:=bC hb z1 zz
 replace z2:=bC hb z2 zz
 replace z3:=bC hb z3 zz
 replace z4:=bC hb z4 zz
 replace z5:=bC hb z5 zz
 replace z6:=bC hb z6 zz
 replace zz:=Nat.lt_of_lt_of_le zz hb.size
 replace u0:=bC hb u0 zu
 replace u1:=bC hb u1 zu
 replace u2:=bC hb u2 zu
 replace u3:=bC hb u3 zu
 replace u4:=bC hb u4 zu
 replace u5:=bC hb u5 zu
 replace u6:=bC hb u6 zu
 replace zu:=Nat.lt_of_lt_of_le zu hb.size
 replace HB:=hide (HB.out.trans (hb.mono HB.out.size))
 clear hb
 go_wp2
 go_ret
 exact ⟨rfl,HB.out⟩
theorem l4do_no (key:Int) (o:Option Addr) (cap:Nat) (l:List Bk) (oR:Option Addr) (nR cR:Nat) (k i g:Int) (w:World) (hl:backsOkB l=true) (hm:doL l k i g=none) (hlen:l.length≤100) (hR:RdK w.heap.size w o l):
  Calls Tryz.prog 147 #[plv key (.slice o l.length cap) (.slice oR nR cR),cmd k i g] w fun e w'=> e=.returned (.tuple #[plv key (.slice o l.length cap) (.slice oR nR cR),.bool false])∧Below w.heap.size w w':=by
 have hth:thereB l i=(k==0):=by
  unfold doL at hm
  split at hm
  ·assumption
  ·cases hm
 obtain ⟨W0,hW0⟩:∃W,(((w.alloc (.cells #[.int .i64 key,.slice o l.length cap,.slice oR nR cR] 46)).alloc (.cells #[.int .i64 k,.int .i64 i,.int .i64 g] 221)).alloc (.cells #[.int .i64 0,.slice none 0 0,.slice none 0 0] 46))=W:=⟨_,rfl⟩
 have hb_W0:Below w.heap.size w W0:=by rw [←hW0];exact ((((Below.refl _ _).alloc (Nat.le_refl _) _).alloc (by simp <;> omega) _).alloc (by simp <;> omega) _)
 have HB:=hide hb_W0
 clear hb_W0
 have zz:w.heap.size < W0.heap.size:=by rw [←hW0];simp <;> omega
 have z0:W0.cell? ⟨w.heap.size,0,none⟩=some (.int .i64 key):=by rw [←hW0];simp [go_sem]
 have z1:W0.cell? ⟨w.heap.size,1,none⟩=some (.slice o l.length cap):=by rw [←hW0];simp [go_sem]
 have z2:W0.cell? ⟨w.heap.size,2,none⟩=some (.slice oR nR cR):=by rw [←hW0];simp [go_sem]
 have zu:w.heap.size+1 < W0.heap.size:=by rw [←hW0];simp <;> omega
 have u0:W0.cell? ⟨w.heap.size+1,0,none⟩=some (.int .i64 k):=by rw [←hW0];simp [go_sem]
 have u1:W0.cell? ⟨w.heap.size+1,1,none⟩=some (.int .i64 i):=by rw [←hW0];simp [go_sem]
 have u2:W0.cell? ⟨w.heap.size+1,2,none⟩=some (.int .i64 g):=by rw [←hW0];simp [go_sem]
 have zr:w.heap.size+1+1 < W0.heap.size:=by rw [←hW0];simp
 have r0:W0.cell? ⟨w.heap.size+1+1,0,none⟩=some (.int .i64 0):=by rw [←hW0];simp [go_sem]
 have r1:W0.cell? ⟨w.heap.size+1+1,1,none⟩=some (.slice none 0 0):=by rw [←hW0];simp [go_sem]
 have r2:W0.cell? ⟨w.heap.size+1+1,2,none⟩=some (.slice none 0 0):=by rw [←hW0];simp [go_sem]
 have fr0:W0.frozen? ⟨w.heap.size+1+1,0,none⟩=false:=by rw [←hW0];simp [go_sem]
 have fr1:W0.frozen? ⟨w.heap.size+1+1,1,none⟩=false:=by rw [←hW0];simp [go_sem]
 have fr2:W0.frozen? ⟨w.heap.size+1+1,2,none⟩=false:=by rw [←hW0];simp [go_sem]
 have HF:=hide (l4find_any o cap l i W0 ((hR.kept HB.out (Nat.le_refl _)).le HB.out.size) (by omega) hl)
 clear hR hm
 by_cases h0:k=0
 ·subst h0
  have h1:thereB l i=true:=hth
  rw [find_yes h1] at HF
  have hge:(0:Int)≤(placeN l i:Int):=by omega
  clear hth h1
  generalize placeN l i=pl at *
  go_enter Tryz.func147,Tryz.ntmps147
  go_wp2_with fail
  refine HF.out.mono ?_
  rintro e w9 ⟨rfl,rfl⟩
  go_wp2
  refine bodyPost_ret (v:=.tuple #[plv key (.slice o l.length cap) (.slice oR nR cR),.bool false]) (by simp [results,Tryz.results147,go_sem,r0,r1,r2]) rfl ⟨rfl, ?_⟩
  exact ((HB.out.setCell (p:=⟨w.heap.size+1+1,0,none⟩) (by (try simp) <;> omega) _).setCell (p:=⟨w.heap.size+1+1,1,none⟩) (by (try simp) <;> omega) _).setCell (p:=⟨w.heap.size+1+1,2,none⟩) (by (try simp) <;> omega) _
 ·have h0':(k==0)=false:=beq_eq_false_iff_ne.2 h0
  rw [h0'] at hth
  rw [find_no hth] at HF
  clear hth
  go_enter Tryz.func147,Tryz.ntmps147
  go_wp2_with fail
  refine HF.out.mono ?_
  rintro e w9 ⟨rfl,rfl⟩
  go_wp2
  refine bodyPost_ret (v:=.tuple #[plv key (.slice o l.length cap) (.slice oR nR cR),.bool false]) (by simp [results,Tryz.results147,go_sem,r0,r1,r2]) rfl ⟨rfl, ?_⟩
  exact ((HB.out.setCell (p:=⟨w.heap.size+1+1,0,none⟩) (by (try simp) <;> omega) _).setCell (p:=⟨w.heap.size+1+1,1,none⟩) (by (try simp) <;> omega) _).setCell (p:=⟨w.heap.size+1+1,2,none⟩) (by (try simp) <;> omega) _
theorem l4do_yes (key:Int) (o:Option Addr) (cap:Nat) (l:List Bk) (oR:Option Addr) (cR:Nat) (hsR:List Hd) (k i g:Int) (m:List Bk) (w:World) (hk:keyB key=true) (hl:backsOkB l=true) (hc:cmdOkB k i g=true) (hm:doL l k i g=some m) (hlen:l.length≤100) (hR:RdK w.heap.size w o l) (hG:RdL layH w.heap.size w oR hsR) (hnR:oR=none→cR=0) (hR3:hsR.length≤3):
  Calls Tryz.prog 147 #[plv key (.slice o l.length cap) (.slice oR hsR.length cR),cmd k i g] w fun e w'=> ∃o2 c2 oR2 n2 cR2 o3 c3 hs3,e=.returned (.tuple #[plv key (.slice o2 m.length c2) (.slice oR2 n2 cR2),.bool true])∧n2=(((o3,8,c3)::hsR).take 3).length∧ownK w' w.heap.size (.slice o2 m.length c2) m∧ownL layH 228 w' w.heap.size (.slice oR2 n2 cR2) (((o3,8,c3)::hsR).take 3)∧ownL layH 60 w' w.heap.size (.slice o3 8 c3) hs3∧Tab (fun b=> pairI key b m) 8 w' w.heap.size hs3∧Below w.heap.size w w':=by
 by_cases h0:k=0
 ·subst h0
  exact (l4do_add key o cap l oR cR hsR i g m w hk hl hc hm hlen hR hG hnR hR3).mono (fun _ _ h=> h)
 ·exact (l4do_else key o cap l oR cR hsR k i g (placeN l i) m w hk hl hc hm hlen hR hG hnR hR3 h0 (beq_eq_false_iff_ne.2 h0) rfl).mono (fun _ _ h=> h)
theorem l4new_any (key:Int) (w:World) (hk:keyB key=true):
  Calls Tryz.prog 145 #[.int .i64 key] w fun e w'=> ∃g,e=.returned (plv key (.slice none 0 0) (.slice (some ⟨g,0,none⟩) 1 1))∧RingO w' w.heap.size (.slice (some ⟨g,0,none⟩) 1 1) (fun b=> pairI key b []) []∧Below w.heap.size w w':=by
 obtain ⟨W0,hW0⟩:∃W,(w.alloc (.cells #[.int .i64 0,.slice none 0 0,.slice none 0 0] 46))=W:=⟨_,rfl⟩
 have hb_W0:Below w.heap.size w W0:=by rw [←hW0];exact ((Below.refl _ _).alloc (Nat.le_refl _) _)
 have HB:=hide hb_W0
 clear hb_W0
 have zr:w.heap.size < W0.heap.size:=by rw [←hW0];simp
 have r0:W0.cell? ⟨w.heap.size,0,none⟩=some (.int .i64 0):=by rw [←hW0];simp [go_sem]
 have r1:W0.cell? ⟨w.heap.size,1,none⟩=some (.slice none 0 0):=by rw [←hW0];simp [go_sem]
 have r2:W0.cell? ⟨w.heap.size,2,none⟩=some (.slice none 0 0):=by rw [←hW0];simp [go_sem]
 have fr0:W0.frozen? ⟨w.heap.size,0,none⟩=false:=by rw [←hW0];simp [go_sem]
 have fr1:W0.frozen? ⟨w.heap.size,1,none⟩=false:=by rw [←hW0];simp [go_sem]
 have fr2:W0.frozen? ⟨w.heap.size,2,none⟩=false:=by rw [←hW0];simp [go_sem]
 have hz00:=zr
 have HT:=hide (l3tableO_any key none 0 [] W0 (.inl rfl) (by simp) hk rfl)
 go_enter Tryz.func145,Tryz.ntmps145
 go_wp2_with fail
 refine (HT.out).mono ?_
 rintro e v1 ⟨o3,c3,hs3,rfl,ow3,tb3,hb⟩
 have hs1:=hb.size
 have HX:=hide (And.intro ow3 tb3)
 clear ow3 tb3
 replace r0:=bC hb r0 zr
 replace r1:=bC hb r1 zr
 replace r2:=bC hb r2 zr
 replace fr0:=bF hb fr0 zr
 replace fr1:=bF hb fr1 zr
 replace fr2:=bF hb fr2 zr
 replace zr:=Nat.lt_of_lt_of_le zr hb.size
 replace HB:=hide (HB.out.trans (hb.mono HB.out.size))
 clear hb
 have hbx:v1.heap.size+1=(v1.alloc (.cells #[.slice o3 8 c3] 228)).heap.size:=by simp
 have hne:v1.heap.size≠w.heap.size:=by omega
 have hne':w.heap.size≠v1.heap.size:=by omega
 obtain ⟨W2,hW2⟩:∃W,v1.alloc (.cells #[.slice o3 8 c3] 228)=W:=⟨_,rfl⟩
 have hb2:Below v1.heap.size v1 W2:=by rw [←hW2];exact (Below.refl _ _).alloc (Nat.le_refl _) _
 have HRI:Hid (RingO W2 (w.heap.size+1) (.slice (some ⟨v1.heap.size,0,none⟩) 1 1) (fun b=> pairI key b []) []):=⟨o3,c3,hs3,by rw [←hW2];exact own_mono (one_own v1 o3 8 c3 _) (by omega),own_mono (own_kept HX.out.1 hb2) (by omega),Tab.mono (HX.out.2.kept hb2) (by omega)⟩
 have hs2:=hb2.size
 replace r0:=bC hb2 r0 zr
 replace r1:=bC hb2 r1 zr
 replace r2:=bC hb2 r2 zr
 replace fr0:=bF hb2 fr0 zr
 replace fr1:=bF hb2 fr1 zr
 replace fr2:=bF hb2 fr2 zr
 have HB2:Hid (Below w.heap.size w W2):=HB.out.trans (hb2.mono HB.out.size)
 go_wp2
 refine bodyPost_ret (v:=plv key (.slice none 0 0) (.slice (some ⟨v1.heap.size,0,none⟩) 1 1)) (by simp [results,Tryz.results145,go_sem,r0,r1,r2]) rfl ⟨v1.heap.size,rfl, ?_, ?_⟩
 ·exact RingO.mono (((HRI.out.low (Nat.lt_succ_self _) 0 _).low (Nat.lt_succ_self _) 1 _).low (Nat.lt_succ_self _) 2 _) (Nat.le_succ _)
 ·exact ((HB2.out.setCell (p:=⟨w.heap.size,0,none⟩) (by (try simp) <;> omega) _).setCell (p:=⟨w.heap.size,1,none⟩) (by (try simp) <;> omega) _).setCell (p:=⟨w.heap.size,2,none⟩) (by (try simp) <;> omega) _
def samePB (m1 m2:Pm):Bool:=decide (m1.key=m2.key) && decide (m1.l=m2.l) && ringSame m1.ring m2.ring
theorem implSamePool_any (v1 v2:Value) (m1 m2:Pm) (w:World) (h1:RdPm w.heap.size w v1 m1) (h2:RdPm w.heap.size w v2 m2) (hf1:fitPm m1) (hf2:fitPm m2):
  Calls Tryz.prog 159 #[v1,v2] w fun e w'=> e=.returned (.bool (samePB m1 m2))∧Below w.heap.size w w':=by
 obtain ⟨vb1,vr1,rfl,hb1,r1⟩:=h1
 obtain ⟨vb2,vr2,rfl,hb2,r2⟩:=h2
 obtain ⟨o1,c1,rfl,k1⟩:=hb1.open
 obtain ⟨o2,c2,rfl,k2⟩:=hb2.open
 obtain ⟨oR1,cR1,rfl⟩:=RiR.len r1
 obtain ⟨oR2,cR2,rfl⟩:=RiR.len r2
 obtain ⟨f1,f2,f3,f4,f5⟩:=hf1
 obtain ⟨g1,g2,g3,g4,g5⟩:=hf2
 have HSB:=hide (show samePB m1 m2=(decide (m1.key=m2.key) && decide (m1.l=m2.l) && ringSame m1.ring m2.ring) from rfl)
 obtain ⟨p1,hp1⟩:∃x,m1.key=x:=⟨_,rfl⟩
 obtain ⟨p2,hp2⟩:∃x,m2.key=x:=⟨_,rfl⟩
 obtain ⟨b1,hb1'⟩:∃x,m1.l.length=x:=⟨_,rfl⟩
 obtain ⟨b2,hb2'⟩:∃x,m2.l.length=x:=⟨_,rfl⟩
 obtain ⟨q1,hq1⟩:∃x,m1.ring.length=x:=⟨_,rfl⟩
 obtain ⟨q2,hq2⟩:∃x,m2.ring.length=x:=⟨_,rfl⟩
 have HBK:=hide (fun W (hb:Below w.heap.size w W)=> backsEq_any o1 o2 b1 b2 c1 c2 m1.l m2.l W hb1'.symm hb2'.symm ((k1.kept hb (Nat.le_refl _)).le hb.size) ((k2.kept hb (Nat.le_refl _)).le hb.size) f1 g1)
 have HRG:=hide (fun W (hb:Below w.heap.size w W)=> eqFunc_any oR1 oR2 q1 q2 cR1 cR2 m1.ring m2.ring W hq1.symm hq2.symm (by rw [←hq1];exact RiR.mon.go (RiR.stp.go r1 (Stp.of (lo:=0) (hi:=0) hb) (.inl (Nat.zero_le _))) (Nat.le_refl _) hb.size) (by rw [←hq2];exact RiR.mon.go (RiR.stp.go r2 (Stp.of (lo:=0) (hi:=0) hb) (.inl (Nat.zero_le _))) (Nat.le_refl _) hb.size) (by rw [←hq1];exact f2) f4 f5 g4 g5)
 rw [hp1,hp2,hb1',hb2',hq1,hq2]
 rw [hp1,hp2] at HSB
 clear r1 r2 k1 k2 hb1 hb2 f4 f5 g4 g5 hp1 hp2 hb1' hb2' hq1 hq2
 obtain ⟨W0,hW0⟩:∃W,((w.alloc (.cells #[.int .i64 p1,.slice o1 b1 c1,.slice oR1 q1 cR1] 46)).alloc (.cells #[.int .i64 p2,.slice o2 b2 c2,.slice oR2 q2 cR2] 46))=W:=⟨_,rfl⟩
 have hb_W0:Below w.heap.size w W0:=by rw [←hW0];exact (((Below.refl _ _).alloc (Nat.le_refl _) _).alloc (by simp <;> omega) _)
 have HB:=hide hb_W0
 clear hb_W0
 have zz:w.heap.size < W0.heap.size:=by rw [←hW0];simp <;> omega
 have z0:W0.cell? ⟨w.heap.size,0,none⟩=some (.int .i64 p1):=by rw [←hW0];simp [go_sem]
 have z1:W0.cell? ⟨w.heap.size,1,none⟩=some (.slice o1 b1 c1):=by rw [←hW0];simp [go_sem]
 have z2:W0.cell? ⟨w.heap.size,2,none⟩=some (.slice oR1 q1 cR1):=by rw [←hW0];simp [go_sem]
 have zu:w.heap.size+1 < W0.heap.size:=by rw [←hW0];simp
 have u0:W0.cell? ⟨w.heap.size+1,0,none⟩=some (.int .i64 p2):=by rw [←hW0];simp [go_sem]
 have u1:W0.cell? ⟨w.heap.size+1,1,none⟩=some (.slice o2 b2 c2):=by rw [←hW0];simp [go_sem]
 have u2:W0.cell? ⟨w.heap.size+1,2,none⟩=some (.slice oR2 q2 cR2):=by rw [←hW0];simp [go_sem]
 by_cases hk:p1=p2
 ·subst hk
  rw [decide_eq_true rfl,Bool.true_and] at HSB
  obtain ⟨t1,ht1⟩:∃t,decide (m1.l=m2.l)=t:=⟨_,rfl⟩
  rw [ht1] at HSB HBK
  clear ht1
  go_enter Tryz.func159,Tryz.ntmps159
  go_wp2_with fail
  refine (HBK.out W0 HB.out).mono ?_
  rintro e v1 ⟨rfl,hb⟩
  replace z0:=bC hb z0 zz
  replace z1:=bC hb z1 zz
  replace z2:=bC hb z2 zz
  replace zz:=Nat.lt_of_lt_of_le zz hb.size
  replace u0:=bC hb u0 zu
  replace u1:=bC hb u1 zu
  replace u2:=bC hb u2 zu
  replace zu:=Nat.lt_of_lt_of_le zu hb.size
  replace HB:=hide (HB.out.trans (hb.mono HB.out.size))
  clear hb
  cases t1 with
  |false=>
   go_wp2
   go_ret
   exact ⟨ret_bool (by rw [HSB.out];rfl),HB.out⟩
  |true=>
   go_wp2_with fail
   refine (HRG.out v1 HB.out).mono ?_
   rintro e v2 ⟨rfl,hb⟩
   replace z0:=bC hb z0 zz
   replace z1:=bC hb z1 zz
   replace z2:=bC hb z2 zz
   replace zz:=Nat.lt_of_lt_of_le zz hb.size
   replace u0:=bC hb u0 zu
   replace u1:=bC hb u1 zu
   replace u2:=bC hb u2 zu
   replace zu:=Nat.lt_of_lt_of_le zu hb.size
   replace HB:=hide (HB.out.trans (hb.mono HB.out.size))
   clear hb
   go_wp2
   go_ret
   exact ⟨ret_bool (by rw [HSB.out];rfl),HB.out⟩
 ·rw [decide_eq_false hk] at HSB
  go_enter Tryz.func159,Tryz.ntmps159
  go_wp2
  go_ret
  exact ⟨ret_bool (by rw [HSB.out];rfl),HB.out⟩
theorem l7same_any (v1 v2:Value) (m1 m2:Pm) (w:World) (h1:RdPm w.heap.size w v1 m1) (h2:RdPm w.heap.size w v2 m2) (hf1:fitPm m1) (hf2:fitPm m2):
  Calls Tryz.prog 90 #[v1,v2] w fun e w'=> e=.returned (.bool (samePB m1 m2))∧Below w.heap.size w w':=by
 obtain ⟨vb1,vr1,rfl,hb1,r1⟩:=h1
 obtain ⟨vb2,vr2,rfl,hb2,r2⟩:=h2
 obtain ⟨o1,c1,rfl,k1⟩:=hb1.open
 obtain ⟨o2,c2,rfl,k2⟩:=hb2.open
 obtain ⟨oR1,cR1,rfl⟩:=RiR.len r1
 obtain ⟨oR2,cR2,rfl⟩:=RiR.len r2
 obtain ⟨f1,f2,f3,f4,f5⟩:=hf1
 obtain ⟨g1,g2,g3,g4,g5⟩:=hf2
 have HSB:=hide (show samePB m1 m2=(decide (m1.key=m2.key) && decide (m1.l=m2.l) && ringSame m1.ring m2.ring) from rfl)
 obtain ⟨p1,hp1⟩:∃x,m1.key=x:=⟨_,rfl⟩
 obtain ⟨p2,hp2⟩:∃x,m2.key=x:=⟨_,rfl⟩
 obtain ⟨b1,hb1'⟩:∃x,m1.l.length=x:=⟨_,rfl⟩
 obtain ⟨b2,hb2'⟩:∃x,m2.l.length=x:=⟨_,rfl⟩
 obtain ⟨q1,hq1⟩:∃x,m1.ring.length=x:=⟨_,rfl⟩
 obtain ⟨q2,hq2⟩:∃x,m2.ring.length=x:=⟨_,rfl⟩
 have H1:=hide k1
 have H2:=hide k2
 have HR1:=hide r1
 have HR2:=hide r2
 have F4:=hide f4
 have F5:=hide f5
 have G4:=hide g4
 have G5:=hide g5
 rw [hq1] at HR1
 rw [hq2] at HR2
 have HN1:=hide hb1'
 have HN2:=hide hb2'
 have HQ1:=hide hq1
 have HQ2:=hide hq2
 rw [hb1'] at f1
 rw [hq1] at f2
 rw [hp1,hp2,hb1',hb2',hq1,hq2]
 rw [hp1,hp2] at HSB
 clear r1 r2 k1 k2 hb1 hb2 f4 f5 g4 g5 hp1 hp2 hb1' hb2' hq1 hq2 g1 g2 g3 f3
 obtain ⟨W0,hW0⟩:∃W,((w.alloc (.cells #[.int .i64 p1,.slice o1 b1 c1,.slice oR1 q1 cR1] 46)).alloc (.cells #[.int .i64 p2,.slice o2 b2 c2,.slice oR2 q2 cR2] 46))=W:=⟨_,rfl⟩
 have hb_W0:Below w.heap.size w W0:=by rw [←hW0];exact (((Below.refl _ _).alloc (Nat.le_refl _) _).alloc (by simp <;> omega) _)
 have HB:=hide hb_W0
 clear hb_W0
 have zz:w.heap.size < W0.heap.size:=by rw [←hW0];simp <;> omega
 have z0:W0.cell? ⟨w.heap.size,0,none⟩=some (.int .i64 p1):=by rw [←hW0];simp [go_sem]
 have z1:W0.cell? ⟨w.heap.size,1,none⟩=some (.slice o1 b1 c1):=by rw [←hW0];simp [go_sem]
 have z2:W0.cell? ⟨w.heap.size,2,none⟩=some (.slice oR1 q1 cR1):=by rw [←hW0];simp [go_sem]
 have zu:w.heap.size+1 < W0.heap.size:=by rw [←hW0];simp
 have u0:W0.cell? ⟨w.heap.size+1,0,none⟩=some (.int .i64 p2):=by rw [←hW0];simp [go_sem]
 have u1:W0.cell? ⟨w.heap.size+1,1,none⟩=some (.slice o2 b2 c2):=by rw [←hW0];simp [go_sem]
 have u2:W0.cell? ⟨w.heap.size+1,2,none⟩=some (.slice oR2 q2 cR2):=by rw [←hW0];simp [go_sem]
 by_cases hk:p1=p2
 ·subst hk
  by_cases hb:b1=b2
  ·subst hb
   by_cases hq:q1=q2
   ·subst hq
    go_enter Tryz.func90,Tryz.ntmps90
    go_wp2
    go_loopw [4,5] (fun rv iv wr=> ∃i:Nat,i≤b1∧iv=.int .i64 (i:Int)∧rv=.bool false∧Hid (m1.l.take i=m2.l.take i)∧Hid (Below W0.heap.size W0 wr))
     (fun _ iv _=> b1 - (intOf iv).toNat)
    case atStart=> exact ⟨0,Nat.zero_le _,rfl,rfl,rfl,Below.refl _ _⟩
    case round=>
     rename World=> wr
     obtain ⟨i,hi',rfl,rfl,HT,HBr⟩:=hrel
     have z1':=bC HBr.out z1 zz
     have u1':=bC HBr.out u1 zu
     have zz':=Nat.lt_of_lt_of_le zz HBr.out.size
     have zu':=Nat.lt_of_lt_of_le zu HBr.out.size
     have HBw:=hide (HB.out.trans (HBr.out.mono HB.out.size))
     by_cases hlt:i < b1
     ·have hlt':(i:Int) < (b1:Int):=by omega
      obtain ⟨g1,f1,rfl,hg1,a0,a1,a2⟩:=RdK.cells3 H1.out i (by rw [HN1.out];exact hlt)
      obtain ⟨g2,f2,rfl,hg2,b0,b1,b2⟩:=RdK.cells3 H2.out i (by rw [HN2.out];exact hlt)
      have G0:=Grown.cell z1' zz'
      have G1:=Grown.cell u1' zu'
      have Ga0:=Grown.cell (bC HBw.out a0 hg1) (Nat.lt_of_lt_of_le hg1 HBw.out.size)
      have Ga1:=Grown.cell (bC HBw.out a1 hg1) (Nat.lt_of_lt_of_le hg1 HBw.out.size)
      have Ga2:=Grown.cell (bC HBw.out a2 hg1) (Nat.lt_of_lt_of_le hg1 HBw.out.size)
      have Gb0:=Grown.cell (bC HBw.out b0 hg2) (Nat.lt_of_lt_of_le hg2 HBw.out.size)
      have Gb1:=Grown.cell (bC HBw.out b1 hg2) (Nat.lt_of_lt_of_le hg2 HBw.out.size)
      have Gb2:=Grown.cell (bC HBw.out b2 hg2) (Nat.lt_of_lt_of_le hg2 HBw.out.size)
      have T1:=hide (take_snocK m1.l i (by rw [HN1.out];exact hlt))
      have T2:=hide (take_snocK m2.l i (by rw [HN2.out];exact hlt))
      have N12:Hid (m1.l=m2.l→m1.l.getD i (0,0,false)=m2.l.getD i (0,0,false)):=fun h=> by rw [h]
      clear a0 a1 a2 b0 b1 b2
      generalize m1.l.getD i (0,0,false)=d at *
      generalize m2.l.getD i (0,0,false)=e at *
      by_cases hde:d=e
      ·subst hde
       obtain ⟨d0,d1,d2⟩:=d
       dsimp only at Ga0 Ga1 Ga2 Gb0 Gb1 Gb2
       clear N12
       go_wp2
       (refine wp_region_grown (by kernel_rfl) (by kernel_rfl) ?_;intro hne9;(repeat (go_big_quiet_step (fail)));(with_reducible refine wpQuiet_nil ?_);intro _ hw9;obtain ⟨pq,hw8⟩:=hw9;subst hw8)
       have HB9:=hide (HBr.out.trans (pq.b.mono HBr.out.size))
       go_wp2
       go_roundw
       case rel=> exact ⟨i+1,by omega,by go_num,rfl,(by unfold Hid;rw [T1.out,T2.out,HT.out]),HB9.out⟩
       case measure=> simp [intOf];omega
      ·have HX:Hid (samePB m1 m2=false):=by
        unfold Hid
        rw [HSB.out,decide_eq_false (fun h=> hde (N12.out h))]
        simp
       obtain ⟨d0,d1,d2⟩:=d
       obtain ⟨e0,e1,e2⟩:=e
       dsimp only at Ga0 Ga1 Ga2 Gb0 Gb1 Gb2
       have hne:¬(d0=e0∧d1=e1∧d2=e2):=fun h=> hde (by rw [h.1,h.2.1,h.2.2])
       clear hde N12 T1 T2 HSB
       by_cases q0:d0=e0
       ·subst q0
        by_cases q1:d1=e1
        ·subst q1
         have q2:¬d2=e2:=fun h=> hne ⟨rfl,rfl,h⟩
         clear hne
         cases d2 <;> cases e2 <;> first|exact absurd rfl q2|skip
         all_goals clear q2
         all_goals go_wp2
         all_goals (refine wp_region_grown (by kernel_rfl) (by kernel_rfl) ?_;intro hne9;(repeat (go_big_quiet_step (fail)));(with_reducible refine wpQuiet_nil ?_);intro _ hw9;obtain ⟨pq,hw8⟩:=hw9;subst hw8)
         all_goals have HB9:=hide (HBw.out.trans (pq.b.mono HBw.out.size))
         all_goals go_wp2
         all_goals go_ret
         all_goals exact ⟨ret_bool HX.out.symm,HB9.out⟩
        ·clear hne
         have q1':(d1==e1)=false:=by simpa using q1
         go_wp2
         (refine wp_region_grown (by kernel_rfl) (by kernel_rfl) ?_;intro hne9;(repeat (go_big_quiet_step (fail)));(with_reducible refine wpQuiet_nil ?_);intro _ hw9;obtain ⟨pq,hw8⟩:=hw9;subst hw8)
         have HB9:=hide (HBw.out.trans (pq.b.mono HBw.out.size))
         go_wp2
         go_ret
         exact ⟨ret_bool HX.out.symm,HB9.out⟩
       ·clear hne
        have q0':(d0==e0)=false:=by simpa using q0
        go_wp2
        (refine wp_region_grown (by kernel_rfl) (by kernel_rfl) ?_;intro hne9;(repeat (go_big_quiet_step (fail)));(with_reducible refine wpQuiet_nil ?_);intro _ hw9;obtain ⟨pq,hw8⟩:=hw9;subst hw8)
        have HB9:=hide (HBw.out.trans (pq.b.mono HBw.out.size))
        go_wp2
        go_ret
        exact ⟨ret_bool HX.out.symm,HB9.out⟩
     ·have e:i=b1:=by omega
      subst e
      have HLE:Hid (m1.l=m2.l):=by
       have h:=HT.out
       rw [List.take_of_length_le (by rw [HN1.out];exact Nat.le_refl _),List.take_of_length_le (by rw [HN2.out];exact Nat.le_refl _)] at h
       exact h
      have HSR:Hid (samePB m1 m2=ringSame m1.ring m2.ring):=by
       unfold Hid
       rw [HSB.out,decide_eq_true HLE.out]
       simp
      clear HSB
      go_wp2
      clear z1' u1' zz' zu'
      go_loopw [4,6] (fun rv iv wq=> ∃k:Nat,k≤q1∧iv=.int .i64 (k:Int)∧rv=.bool false∧Hid (∀x,x < k→movedI (m1.ring.getD x []) (m2.ring.getD x [])=0)∧Hid (Below W0.heap.size W0 wq))
       (fun _ iv _=> q1 - (intOf iv).toNat)
      case atStart=> exact ⟨0,Nat.zero_le _,rfl,rfl,fun q h=> absurd h (Nat.not_lt_zero _),HBr.out⟩
      case round=>
       rename World=> wq
       obtain ⟨k,hk',rfl,rfl,HTK,HBq⟩:=hrel
       have z2':=bC HBq.out z2 zz
       have u2':=bC HBq.out u2 zu
       have zz':=Nat.lt_of_lt_of_le zz HBq.out.size
       have zu':=Nat.lt_of_lt_of_le zu HBq.out.size
       have HBv:=hide (HB.out.trans (HBq.out.mono HB.out.size))
       by_cases hlt:k < q1
       ·have hlt':(k:Int) < (q1:Int):=by omega
        have hk1:k < m1.ring.length:=by rw [HQ1.out];exact hlt
        have hk2:k < m2.ring.length:=by rw [HQ2.out];exact hlt
        obtain ⟨e1,w1,x1,rfl,he1,a1,t1⟩:=RiRows.atS HR1.out (Nat.le_refl _) k hk1
        obtain ⟨e2,w2,x2,rfl,he2,a2,t2⟩:=RiRows.atS HR2.out (Nat.le_refl _) k hk2
        obtain ⟨o3,c3,rfl,rd1⟩:=RiT.rd t1
        obtain ⟨o4,c4,rfl,rd2⟩:=RiT.rd t2
        have HMv:=hide (fun p:Grown wq=> specMoved_any o3 o4 c3 c4 (m1.ring.getD k []) (m2.ring.getD k []) p.v ((rd1.kept (HBv.out.trans (p.b.mono HBv.out.size)) (Nat.le_refl _)).le (HBv.out.trans (p.b.mono HBv.out.size)).size) ((rd2.kept (HBv.out.trans (p.b.mono HBv.out.size)) (Nat.le_refl _)).le (HBv.out.trans (p.b.mono HBv.out.size)).size) (F4.out k hk1) (G4.out k hk2) (F5.out k hk1) (G5.out k hk2))
        have G0:=Grown.cell z2' zz'
        have G1:=Grown.cell u2' zu'
        have G2:=Grown.cell (bC HBv.out a1 he1) (Nat.lt_of_lt_of_le he1 HBv.out.size)
        have G3:=Grown.cell (bC HBv.out a2 he2) (Nat.lt_of_lt_of_le he2 HBv.out.size)
        have HNO:=hide (fun h=> ring_same_no (R1:=m1.ring) (R2:=m2.ring) hk1 h)
        clear t1 t2 rd1 rd2 a1 a2
        obtain ⟨r1,hr1⟩:∃n,(m1.ring.getD k []).length=n:=⟨_,rfl⟩
        obtain ⟨r2,hr2⟩:∃n,(m2.ring.getD k []).length=n:=⟨_,rfl⟩
        obtain ⟨mv,hmv⟩:∃q,movedI (m1.ring.getD k []) (m2.ring.getD k [])=q:=⟨_,rfl⟩
        rw [hr1,hr2,hmv] at HMv
        rw [hr1] at G2
        rw [hr2] at G3
        rw [hmv] at HNO
        have HMQ:=hide hmv
        clear hr1 hr2 hmv
        by_cases h0:mv=0
        ·subst h0
         go_wp2
         (refine wp_region_grown (by kernel_rfl) (by kernel_rfl) ?_;intro hne9;(repeat (go_big_quiet_step ((go_at_call 149;exact grown_of _ (HMv.out _)))));(with_reducible refine wpQuiet_nil ?_);intro _ hw9;obtain ⟨pq,hw8⟩:=hw9;subst hw8)
         have HB9:=hide (HBq.out.trans (pq.b.mono HBq.out.size))
         have HT9:Hid (∀x,x < k+1→movedI (m1.ring.getD x []) (m2.ring.getD x [])=0):=fun x hx=> by
          rcases Nat.lt_succ_iff_lt_or_eq.1 hx with h|h
          ·exact HTK.out x h
          ·rw [h];exact HMQ.out
         go_wp2
         go_roundw
         case rel=> exact ⟨k+1,by omega,by go_num,rfl,HT9.out,HB9.out⟩
         case measure=> simp [intOf];omega
        ·have HE:=hide (HSR.out.trans (HNO.out h0))
         have h0':(mv==0)=false:=by simpa using h0
         go_wp2
         (refine wp_region_grown (by kernel_rfl) (by kernel_rfl) ?_;intro hne9;(repeat (go_big_quiet_step ((go_at_call 149;exact grown_of _ (HMv.out _)))));(with_reducible refine wpQuiet_nil ?_);intro _ hw9;obtain ⟨pq,hw8⟩:=hw9;subst hw8)
         have HB9:=hide (HBv.out.trans (pq.b.mono HBv.out.size))
         go_wp2
         go_ret
         exact ⟨ret_bool HE.out.symm,HB9.out⟩
       ·have e:k=q1:=by omega
        subst e
        have HE:Hid (samePB m1 m2=true):=HSR.out.trans (ring_same_yes (by rw [HQ1.out,HQ2.out]) (fun i hi=> HTK.out i (by rw [←HQ1.out];exact hi)))
        go_wp2
        go_ret
        exact ⟨ret_bool HE.out.symm,HBv.out⟩
   ·have hq':¬((q1:Int)=(q2:Int)):=by omega
    have HE:Hid (samePB m1 m2=false):=by
     unfold Hid
     rw [HSB.out]
     rw [ring_same_len (by rw [HQ1.out,HQ2.out];exact hq)];simp
    clear HSB
    go_enter Tryz.func90,Tryz.ntmps90
    go_wp2
    go_ret
    exact ⟨ret_bool HE.out.symm,HB.out⟩
  ·have hb':¬((b1:Int)=(b2:Int)):=by omega
   have HE:Hid (samePB m1 m2=false):=by
    unfold Hid
    rw [HSB.out]
    rw [decide_eq_false (show ¬m1.l=m2.l from fun h=> hb (by rw [←HN1.out,←HN2.out,h]))];simp
   clear HSB
   go_enter Tryz.func90,Tryz.ntmps90
   go_wp2
   go_ret
   exact ⟨ret_bool HE.out.symm,HB.out⟩
 ·skip
  have HE:Hid (samePB m1 m2=false):=by
   unfold Hid
   rw [HSB.out]
   rw [decide_eq_false hk];rfl
  clear HSB
  go_enter Tryz.func90,Tryz.ntmps90
  go_wp2
  go_ret
  exact ⟨ret_bool HE.out.symm,HB.out⟩
structure PBox (w:World) (base B:Nat) (key:Int) (l:List Bk) (hs:List Hd) (o:Option Addr) (c:Nat) (oR:Option Addr) (cR:Nat):Prop where
 box:w.heap[B]? =some (.cells #[.int .i64 key,.slice o l.length c,.slice oR hs.length cR] 46 (0,0))
 backs:ownK w base (.slice o l.length c) l
 ring:ownL layH 228 w base (.slice oR hs.length cR) hs
theorem PBox.kept {w w':World} {base B:Nat} {key:Int} {l:List Bk} {hs:List Hd} {o oR:Option Addr} {c cR:Nat} (h:PBox w base B key l hs o c oR cR) (hb:Below w.heap.size w w'):PBox w' base B key l hs o c oR cR:=
 ⟨(hb.block B (Array.getElem?_eq_some_iff.1 h.box).1).trans h.box,own_kept h.backs hb,own_kept h.ring hb⟩
theorem PBox.set {w:World} {base B:Nat} {key:Int} {l:List Bk} {hs:List Hd} {o oR:Option Addr} {c n cR:Nat} {z:Array Value} (hB:w.heap[B]? =some (.cells z 46 (0,0))) (hz:z.size=3) (h1:ownK w base (.slice o l.length c) l) (h2:ownL layH 228 w base (.slice oR n cR) hs) (hn:n=hs.length):PBox (setP w B (.int .i64 key) (.slice o l.length c) (.slice oR n cR)) base B key l hs o c oR cR:=by
 subst hn
 have b1:=box_put hB 0 (.int .i64 key)
 have b2:=box_put b1 1 (.slice o l.length c)
 have b3:=box_put b2 2 (.slice oR hs.length cR)
 refine ⟨?_,own_putB (own_putB (own_putB h1 hB neP4 0 _) b1 neP4 1 _) b2 neP4 2 _,own_putB (own_putB (own_putB h2 hB neP1 0 _) b1 neP1 1 _) b2 neP1 2 _⟩
 rw [b3]
 match z,hz with
 |⟨[x,y,u]⟩,_=> rfl
theorem capH {w:World} {base:Nat} {o:Option Addr} {n c:Nat} {hs:List Hd} (h:ownL layH 228 w base (.slice o n c) hs):o=none→c=0:=fun e=> (InRow.cap (InRow.of h)) n c (by rw [e])
theorem setP_below {C:Nat} {w W:World} {B:Nat} (h:Below C w W) (hB:C≤B) (x y z:Value):Below C w (setP W B x y z):=((h.setCell (p:=⟨B,0,none⟩) hB _).setCell (p:=⟨B,1,none⟩) hB _).setCell (p:=⟨B,2,none⟩) hB _
theorem finJ {cur W:World} {base B:Nat} {key:Int} {m:List Bk} {hs2:List Hd} {o2 oR2:Option Addr} {c2 n2 cR2:Nat} {z0 z1 z2:Value} (hZ:W.heap[B]? =some (.cells #[z0,z1,z2] 46 (0,0))) (hx:Below cur.heap.size cur W) (hB:cur.heap.size≤B) (h1:ownK W base (.slice o2 m.length c2) m) (h2:ownL layH 228 W base (.slice oR2 n2 cR2) hs2) (hn:n2=hs2.length) (h3:hs2.length≤3):
  ∃B' hs' o' c' oR' cR',Value.pointer (some ⟨B,0,none⟩)=.pointer (some ⟨B',0,none⟩)∧Value.bool true=.bool true∧Hid (PBox (setP W B (.int .i64 key) (.slice o2 m.length c2) (.slice oR2 n2 cR2)) base B' key m hs' o' c' oR' cR')∧Hid (Below cur.heap.size cur (setP W B (.int .i64 key) (.slice o2 m.length c2) (.slice oR2 n2 cR2)))∧cur.heap.size≤B'∧Hid (hs'.length≤3):=
 ⟨B,hs2,o2,c2,oR2,cR2,rfl,rfl,PBox.set hZ rfl h1 h2 hn,setP_below hx hB _ _ _,hB,h3⟩
theorem finJn {cur W:World} {base:Nat} {key:Int} {m:List Bk} {hs2:List Hd} {o2 oR2:Option Addr} {c2 n2 cR2:Nat} (hx:Below cur.heap.size cur W) (h1:ownK W base (.slice o2 m.length c2) m) (h2:ownL layH 228 W base (.slice oR2 n2 cR2) hs2) (hn:n2=hs2.length) (h3:hs2.length≤3):
  ∃B' hs' o' c' oR' cR',Value.pointer (some ⟨W.heap.size,0,none⟩)=.pointer (some ⟨B',0,none⟩)∧Value.bool true=.bool true∧Hid (PBox (W.alloc (.cells #[.int .i64 key,.slice o2 m.length c2,.slice oR2 n2 cR2] 46)) base B' key m hs' o' c' oR' cR')∧Hid (Below cur.heap.size cur (W.alloc (.cells #[.int .i64 key,.slice o2 m.length c2,.slice oR2 n2 cR2] 46)))∧cur.heap.size≤B'∧Hid (hs'.length≤3):=by
 subst hn
 exact ⟨W.heap.size,hs2,o2,c2,oR2,cR2,rfl,rfl,⟨World.alloc_heap_new W _,World.ownsRow.alloc h1 _,World.ownsRow.alloc h2 _⟩,hx.alloc hx.size _,hx.size,h3⟩
theorem specJ_loop (key safe:Int) (b off cap:Nat) (cs:List Cd) (w:World) (hbl:cs.length≠0→b < w.heap.size) (hcell:∀i,i < cs.length→∀j,j < layC.k→w.cell? ⟨b,off+i * layC.k+j,none⟩=(layC.cs (cs.getD i layC.d))[j]?) (hk:keyB key=true) (hl:cs.length≤100) (h0:0≤safe) (h1:safe≤(cs.length:Int)) (ob:Option Addr) (hob:cs.length≠0→ob=some ⟨b,off,none⟩):
  Calls Tryz.prog 88 #[jrn key (.slice ob cs.length cap) safe] w fun e w'=> e=.returned (.bool (runTo cs cs.length).isSome)∧Below w.heap.size w w':=by
 have hik:=l3key_any key
 rw [hk] at hik
 have HC:=hide hcell
 have HOB:=hide hob
 have HBL:=hide hbl
 have q1:decide (100 < (cs.length:Int))=false:=decide_eq_false (by omega)
 have q2:decide (safe < 0)=false:=decide_eq_false (by omega)
 have q3:decide ((cs.length:Int) < safe)=false:=decide_eq_false (by omega)
 have HN:=hide hl
 clear hcell hob hbl h0 h1
 obtain ⟨W0,hW0⟩:∃W,(w.alloc (.cells #[.int .i64 key,.slice ob cs.length cap,.int .i64 safe] 43))=W:=⟨_,rfl⟩
 have hb_W0:Below w.heap.size w W0:=by rw [←hW0];exact ((Below.refl _ _).alloc (Nat.le_refl _) _)
 have HB:=hide hb_W0
 clear hb_W0
 have zz:w.heap.size < W0.heap.size:=by rw [←hW0];simp
 have z0:W0.cell? ⟨w.heap.size,0,none⟩=some (.int .i64 key):=by rw [←hW0];simp [go_sem]
 have z1:W0.cell? ⟨w.heap.size,1,none⟩=some (.slice ob cs.length cap):=by rw [←hW0];simp [go_sem]
 have z2:W0.cell? ⟨w.heap.size,2,none⟩=some (.int .i64 safe):=by rw [←hW0];simp [go_sem]
 have HL:=hide (l4new_any key W0 hk)
 have hz0:=zz
 go_enter Tryz.func88,Tryz.ntmps88
 go_wp2_with (go_at_call 54;refine (hik _).mono ?_;rintro e w9 ⟨rfl,rfl⟩)
 refine (HL.out).mono ?_
 rintro e v1 ⟨gR,rfl,hring,hb⟩
 have HRG:=hide hring
 have hs1:=hb.size
 clear hring
 replace z0:=bC hb z0 zz
 replace z1:=bC hb z1 zz
 replace z2:=bC hb z2 zz
 replace zz:=Nat.lt_of_lt_of_le zz hb.size
 replace HB:=hide (HB.out.trans (hb.mono HB.out.size))
 clear hb
 have z1v:=z1
 have zzv:=zz
 have HB1W:=HB
 obtain ⟨W1,hW1⟩:∃W,(v1.alloc (.cells #[.int .i64 key,.slice none 0 0,.slice (some ⟨gR,0,none⟩) 1 1] 46))=W:=⟨_,rfl⟩
 have hb_W1:Below v1.heap.size v1 W1:=by rw [←hW1];exact ((Below.refl _ _).alloc (Nat.le_refl _) _)
 replace z0:=bC hb_W1 z0 zz
 replace z1:=bC hb_W1 z1 zz
 replace z2:=bC hb_W1 z2 zz
 replace zz:=Nat.lt_of_lt_of_le zz hb_W1.size
 replace HB:=hide (HB.out.trans (hb_W1.mono HB.out.size))
 clear hb_W1
 have zp:v1.heap.size < W1.heap.size:=by rw [←hW1];simp
 have p0:W1.cell? ⟨v1.heap.size,0,none⟩=some (.int .i64 key):=by rw [←hW1];simp [go_sem]
 have p1:W1.cell? ⟨v1.heap.size,1,none⟩=some (.slice none 0 0):=by rw [←hW1];simp [go_sem]
 have p2:W1.cell? ⟨v1.heap.size,2,none⟩=some (.slice (some ⟨gR,0,none⟩) 1 1):=by rw [←hW1];simp [go_sem]
 obtain ⟨o3,c3,hs3,rg1,_,_⟩:=HRG.out
 have hb1:Below v1.heap.size v1 W1:=by rw [←hW1];exact (Below.refl _ _).alloc (Nat.le_refl _) _
 have HP:Hid (PBox W1 w.heap.size v1.heap.size key [] [(o3,8,c3)] none 0 (some ⟨gR,0,none⟩) 1):=⟨by rw [←hW1];exact World.alloc_heap_new v1 _,World.ownsRow_nil _ _ _ _,own_mono (own_kept rg1 hb1) (by omega)⟩
 clear rg1 HRG hb1
 go_wp2
 go_loopw [4] (fun iv wr=> ∃(t:Nat) (l:List Bk) (hs:List Hd) (o:Option Addr) (c:Nat) (oR:Option Addr) (cR:Nat),t≤cs.length∧iv=.int .i64 (t:Int)∧Hid (PBox wr w.heap.size v1.heap.size key l hs o c oR cR)∧Hid (runTo cs t=some l)∧Hid (hs.length≤3)∧Hid (Below v1.heap.size v1 wr))
  (fun iv _=> cs.length - (intOf iv).toNat)
 case atStart=> exact ⟨0,[],_,_,_,_,_,Nat.zero_le _,rfl,HP.out,rfl,(Nat.le_of_ble_eq_true rfl),by rw [←hW1];exact (Below.refl _ _).alloc (Nat.le_refl _) _⟩
 case round=>
  obtain ⟨t,l,hs,o,c,oR,cR,htl,rfl,HPB,HRUN,HS3,HBR⟩:=hrel
  have hv1:=HBR.out.size
  have HBB:Hid (Below w.heap.size w wr):=(HB1W.out).trans (HBR.out.mono HB1W.out.size)
  have y1:=bC HBR.out z1v zzv
  by_cases hlt:t < cs.length
  ·skip
   clear z0 z1 z2 zz p0 p1 p2 zp hW0 hW1 HP hik HB
   have hlt':(t:Int) < (cs.length:Int):=by omega
   have ht0:(0:Int)≤(t:Int):=by omega
   have hob:=HOB.out (by omega)
   have hbl:=HBL.out (by omega)
   subst hob
   obtain ⟨hbo,hll⟩:=runTo_ok t l (by omega) HRUN.out
   obtain ⟨c0,c1,c2⟩:=RdL.cmd (C:=w.heap.size) HC.out t hlt
   replace c0:=(HBB.out.cell (p:=⟨b,off+t * 3,none⟩) hbl).trans c0
   replace c1:=(HBB.out.cell (p:=⟨b,off+t * 3+1,none⟩) hbl).trans c1
   replace c2:=(HBB.out.cell (p:=⟨b,off+t * 3+2,none⟩) hbl).trans c2
   have HNX:=hide (runTo_succ hlt)
   obtain ⟨x,y,u,hxyu⟩:∃x y u,cs.getD t (0,0,0)=(x,y,u):=⟨_,_,_,rfl⟩
   rw [hxyu] at c0 c1 c2 HNX
   have HST:=hide (fun h=> run_stop hlt (hxyu ▸ h):stepO (runTo cs t) (x,y,u)=none→(runTo cs cs.length).isSome=false)
   rw [HRUN.out] at HNX HST
   simp only [stepO,Option.bind_some] at c0 c1 c2 HNX HST
   clear hxyu HRUN
   have HPC:=hide (specPoolCmdOk_any x y u)
   cases hc:cmdOkB x y u with
   |false=>
    rw [hc] at HST HPC
    have HEND:=hide (HST.out (by simp))
    clear HST HNX
    have HB:=HBB
    go_wp2_with fail
    refine (HPC.out _).mono ?_
    rintro e w2 ⟨rfl,hb⟩
    replace HB:=hide (HB.out.trans (hb.mono HB.out.size))
    clear hb
    go_wp2
    go_ret
    exact ⟨by rw [HEND.out];rfl,HB.out⟩
   |true=>
    rw [hc] at HST HNX HPC
    simp only [if_true] at HST HNX
    go_wp2_with fail
    refine (HPC.out _).mono ?_
    rintro e w2 ⟨rfl,hb⟩
    have hs2:=hb.size
    have HPB2:=hide (HPB.out.kept hb)
    have HBR2:=hide (HBR.out.trans (hb.mono hv1))
    have HBB2:=hide (HBB.out.trans (hb.mono HBB.out.size))
    replace y1:=bC hb y1 (show w.heap.size < wr.heap.size by have:=HB1W.out.size;omega)
    replace c0:=bC hb c0 (show b < wr.heap.size by have:=HBB.out.size;omega)
    replace c1:=bC hb c1 (show b < wr.heap.size by have:=HBB.out.size;omega)
    replace c2:=bC hb c2 (show b < wr.heap.size by have:=HBB.out.size;omega)
    clear hb HPB HBR HBB HPC
    have p0:w2.cell? ⟨v1.heap.size,0,none⟩=some (.int .i64 key):=bx_cell HPB2.out.box 0 _ rfl
    have p1:w2.cell? ⟨v1.heap.size,1,none⟩=some (.slice o l.length c):=bx_cell HPB2.out.box 1 _ rfl
    have p2:w2.cell? ⟨v1.heap.size,2,none⟩=some (.slice oR hs.length cR):=bx_cell HPB2.out.box 2 _ rfl
    have hpz:v1.heap.size < w2.heap.size:=(Array.getElem?_eq_some_iff.1 HPB2.out.box).1
    have hyz:w.heap.size < w2.heap.size:=by have:=HB1W.out.size;omega
    have hbz:b < w2.heap.size:=by omega
    have hzv:v1.heap.size≤w2.heap.size:=by omega
    have HRB:=hide (ownL.rds (L:=layK) HPB2.out.backs)
    have HRR:=hide (ownL.rds (L:=layH) HPB2.out.ring)
    have hcb:=own_capK HPB2.out.backs
    have hcr:=capH HPB2.out.ring
    cases hdo:doL l x y u with
    |none=>
     rw [hdo] at HST
     have HEND:=hide (HST.out rfl)
     have HY:=hide (fun W (hb:Below w2.heap.size w2 W)=> l4do_no key o c l oR hs.length cR x y u W hbo hdo (by have:=HN.out;omega) ((HRB.out.kept hb (Nat.le_refl _)).le hb.size))
     clear HST HNX hdo HRR hcb hcr
     go_upto_region 9 with fail
     go_cut [5,6] from 47 to 56 (fun s5 s6 wx=> s6=.bool false∧Hid (Below w2.heap.size w2 wx))
     case first=>
      go_region_held3 (fun w'=> w'.cell? ⟨v1.heap.size,0,none⟩=some (.int .i64 key)∧w'.cell? ⟨v1.heap.size,1,none⟩=some (.slice o l.length c)∧w'.cell? ⟨v1.heap.size,2,none⟩=some (.slice oR hs.length cR)∧w'.cell? ⟨w.heap.size,1,none⟩=some (.slice (some ⟨b,off,none⟩) cs.length cap)∧w'.cell? ⟨b,off+t * 3,none⟩=some (.int .i64 x)∧w'.cell? ⟨b,off+t * 3+1,none⟩=some (.int .i64 y)∧w'.cell? ⟨b,off+t * 3+2,none⟩=some (.int .i64 u)) (first|with_reducible exact ⟨k0_0,k0_1,k0_2,k0_3,k0_4,k0_5,k0_6⟩|with_reducible exact ⟨p0,p1,p2,y1,c0,c1,c2⟩|with_reducible exact ⟨s0_0,s0_1,s0_2,s0_3,s0_4,s0_5,s0_6⟩|go_keep) (first|(go_at_call 147;have hc_:=HY.out w2.drew (Below.drew (Below.refl _ _));with_reducible refine hc_.mono ?_;clear hc_;rintro e x0 ⟨rfl,hb⟩;have hp0:Below w2.heap.size w2 x0:=Below.trans (show Below w2.heap.size w2 w2.drew from (Below.drew (Below.refl _ _))) (hb.mono (by simp));have sp0:=hp0.size;have k0_0:=bC hp0 p0 hpz;have k0_1:=bC hp0 p1 hpz;have k0_2:=bC hp0 p2 hpz;have k0_3:=bC hp0 y1 hyz;have k0_4:=bC hp0 c0 hbz;have k0_5:=bC hp0 c1 hbz;have k0_6:=bC hp0 c2 hbz;clear hb)|(go_at_call 147;have hc_:=HY.out (w2.alloc (.cells #[.int .i64 0,.slice none 0 0,.slice none 0 0] 46)).drew (Below.drew ((Below.refl _ _).alloc (Nat.le_refl _) _));with_reducible refine hc_.mono ?_;clear hc_;rintro e x0 ⟨rfl,hb⟩;have hp0:Below w2.heap.size w2 x0:=Below.trans (show Below w2.heap.size w2 (w2.alloc (.cells #[.int .i64 0,.slice none 0 0,.slice none 0 0] 46)).drew from (Below.drew ((Below.refl _ _).alloc (Nat.le_refl _) _))) (hb.mono (by simp));have sp0:=hp0.size;have k0_0:=bC hp0 p0 hpz;have k0_1:=bC hp0 p1 hpz;have k0_2:=bC hp0 p2 hpz;have k0_3:=bC hp0 y1 hyz;have k0_4:=bC hp0 c0 hbz;have k0_5:=bC hp0 c1 hbz;have k0_6:=bC hp0 c2 hbz;have hZ0:=box_newA hb;have hzl0:=(Array.getElem?_eq_some_iff.1 hZ0).1;have hzc_0:=bx_cell hZ0 0 _ rfl;have hzf_0:=bx_frozen hZ0 0;have hzc_1:=bx_cell hZ0 1 _ rfl;have hzf_1:=bx_frozen hZ0 1;have hzc_2:=bx_cell hZ0 2 _ rfl;have hzf_2:=bx_frozen hZ0 2;have s0_0:(((x0.setCell ⟨w2.heap.size,0,none⟩ (.int .i64 key)).setCell ⟨w2.heap.size,1,none⟩ (.slice o l.length c)).setCell ⟨w2.heap.size,2,none⟩ (.slice oR hs.length cR)).cell? ⟨v1.heap.size,0,none⟩=some (.int .i64 key):=setP_cell k0_0 hpz;have s0_1:(((x0.setCell ⟨w2.heap.size,0,none⟩ (.int .i64 key)).setCell ⟨w2.heap.size,1,none⟩ (.slice o l.length c)).setCell ⟨w2.heap.size,2,none⟩ (.slice oR hs.length cR)).cell? ⟨v1.heap.size,1,none⟩=some (.slice o l.length c):=setP_cell k0_1 hpz;have s0_2:(((x0.setCell ⟨w2.heap.size,0,none⟩ (.int .i64 key)).setCell ⟨w2.heap.size,1,none⟩ (.slice o l.length c)).setCell ⟨w2.heap.size,2,none⟩ (.slice oR hs.length cR)).cell? ⟨v1.heap.size,2,none⟩=some (.slice oR hs.length cR):=setP_cell k0_2 hpz;have s0_3:(((x0.setCell ⟨w2.heap.size,0,none⟩ (.int .i64 key)).setCell ⟨w2.heap.size,1,none⟩ (.slice o l.length c)).setCell ⟨w2.heap.size,2,none⟩ (.slice oR hs.length cR)).cell? ⟨w.heap.size,1,none⟩=some (.slice (some ⟨b,off,none⟩) cs.length cap):=setP_cell k0_3 hyz;have s0_4:(((x0.setCell ⟨w2.heap.size,0,none⟩ (.int .i64 key)).setCell ⟨w2.heap.size,1,none⟩ (.slice o l.length c)).setCell ⟨w2.heap.size,2,none⟩ (.slice oR hs.length cR)).cell? ⟨b,off+t * 3,none⟩=some (.int .i64 x):=setP_cell k0_4 hbz;have s0_5:(((x0.setCell ⟨w2.heap.size,0,none⟩ (.int .i64 key)).setCell ⟨w2.heap.size,1,none⟩ (.slice o l.length c)).setCell ⟨w2.heap.size,2,none⟩ (.slice oR hs.length cR)).cell? ⟨b,off+t * 3+1,none⟩=some (.int .i64 y):=setP_cell k0_5 hbz;have s0_6:(((x0.setCell ⟨w2.heap.size,0,none⟩ (.int .i64 key)).setCell ⟨w2.heap.size,1,none⟩ (.slice o l.length c)).setCell ⟨w2.heap.size,2,none⟩ (.slice oR hs.length cR)).cell? ⟨b,off+t * 3+2,none⟩=some (.int .i64 u):=setP_cell k0_6 hbz;clear hb))
      all_goals (go_wp2_with fail;go_meet)
      all_goals first
       |with_reducible exact ⟨rfl,hide (setP_below hp0 (Nat.le_refl _) _ _ _)⟩
       |with_reducible exact ⟨rfl,hide (hp0.alloc hp0.size _)⟩
     case rest=>
     obtain ⟨rfl,Hbl⟩:=hcut
     have HBw:=hide (HBB2.out.trans (Hbl.out.mono HBB2.out.size))
     go_wp2
     go_ret
     exact ⟨by rw [HEND.out];rfl,HBw.out⟩
    |some m=>
     rw [hdo] at HNX
     have hs3:=HS3.out
     have HY:=hide (fun W (hb:Below w2.heap.size w2 W)=> l4do_yes key o c l oR cR hs x y u m W hk hbo hc hdo (by have:=HN.out;omega) ((HRB.out.kept hb (Nat.le_refl _)).le hb.size) ((HRR.out.kept hb (Nat.le_refl _)).le hb.size) hcr hs3)
     clear HST hdo hc HRB HRR hcb
     go_upto_region 9 with fail
     go_cut [5,6] from 47 to 56 (fun s5 s6 wx=> ∃B hs' o' c' oR' cR',s5=.pointer (some ⟨B,0,none⟩)∧s6=.bool true∧Hid (PBox wx w.heap.size B key m hs' o' c' oR' cR')∧Hid (Below w2.heap.size w2 wx)∧w2.heap.size≤B∧Hid (hs'.length≤3))
     case first=>
      go_region_held3 (fun w'=> w'.cell? ⟨v1.heap.size,0,none⟩=some (.int .i64 key)∧w'.cell? ⟨v1.heap.size,1,none⟩=some (.slice o l.length c)∧w'.cell? ⟨v1.heap.size,2,none⟩=some (.slice oR hs.length cR)∧w'.cell? ⟨w.heap.size,1,none⟩=some (.slice (some ⟨b,off,none⟩) cs.length cap)∧w'.cell? ⟨b,off+t * 3,none⟩=some (.int .i64 x)∧w'.cell? ⟨b,off+t * 3+1,none⟩=some (.int .i64 y)∧w'.cell? ⟨b,off+t * 3+2,none⟩=some (.int .i64 u)) (first|with_reducible exact ⟨k0_0,k0_1,k0_2,k0_3,k0_4,k0_5,k0_6⟩|with_reducible exact ⟨p0,p1,p2,y1,c0,c1,c2⟩|with_reducible exact ⟨s0_0,s0_1,s0_2,s0_3,s0_4,s0_5,s0_6⟩|go_keep) (first|(go_at_call 147;have hc_:=HY.out w2.drew (Below.drew (Below.refl _ _));with_reducible refine hc_.mono ?_;clear hc_;rintro e x0 ⟨o2,d2,oR2,n2,dR2,o3,d3,hs3,rfl,hn2,ow2,owR,_,_,hb⟩;have hp0:Below w2.heap.size w2 x0:=Below.trans (show Below w2.heap.size w2 w2.drew from (Below.drew (Below.refl _ _))) (hb.mono (by simp));have sp0:=hp0.size;have ow2:=own_mono ow2 (show w.heap.size≤_ by (try simp) <;> omega);have owR:=own_mono owR (show w.heap.size≤_ by (try simp) <;> omega);have hl3:=List.length_take_le 3 ((o3,8,d3)::hs);generalize List.take 3 ((o3,8,d3)::hs)=hs2 at hn2 owR hl3;subst hn2;have k0_0:=bC hp0 p0 hpz;have k0_1:=bC hp0 p1 hpz;have k0_2:=bC hp0 p2 hpz;have k0_3:=bC hp0 y1 hyz;have k0_4:=bC hp0 c0 hbz;have k0_5:=bC hp0 c1 hbz;have k0_6:=bC hp0 c2 hbz;clear hb)|(go_at_call 147;have hc_:=HY.out (w2.alloc (.cells #[.int .i64 0,.slice none 0 0,.slice none 0 0] 46)).drew (Below.drew ((Below.refl _ _).alloc (Nat.le_refl _) _));with_reducible refine hc_.mono ?_;clear hc_;rintro e x0 ⟨o2,d2,oR2,n2,dR2,o3,d3,hs3,rfl,hn2,ow2,owR,_,_,hb⟩;have hp0:Below w2.heap.size w2 x0:=Below.trans (show Below w2.heap.size w2 (w2.alloc (.cells #[.int .i64 0,.slice none 0 0,.slice none 0 0] 46)).drew from (Below.drew ((Below.refl _ _).alloc (Nat.le_refl _) _))) (hb.mono (by simp));have sp0:=hp0.size;have ow2:=own_mono ow2 (show w.heap.size≤_ by (try simp) <;> omega);have owR:=own_mono owR (show w.heap.size≤_ by (try simp) <;> omega);have hl3:=List.length_take_le 3 ((o3,8,d3)::hs);generalize List.take 3 ((o3,8,d3)::hs)=hs2 at hn2 owR hl3;subst hn2;have k0_0:=bC hp0 p0 hpz;have k0_1:=bC hp0 p1 hpz;have k0_2:=bC hp0 p2 hpz;have k0_3:=bC hp0 y1 hyz;have k0_4:=bC hp0 c0 hbz;have k0_5:=bC hp0 c1 hbz;have k0_6:=bC hp0 c2 hbz;have hZ0:=box_newA hb;have hzl0:=(Array.getElem?_eq_some_iff.1 hZ0).1;have hzc_0:=bx_cell hZ0 0 _ rfl;have hzf_0:=bx_frozen hZ0 0;have hzc_1:=bx_cell hZ0 1 _ rfl;have hzf_1:=bx_frozen hZ0 1;have hzc_2:=bx_cell hZ0 2 _ rfl;have hzf_2:=bx_frozen hZ0 2;have s0_0:(((x0.setCell ⟨w2.heap.size,0,none⟩ (.int .i64 key)).setCell ⟨w2.heap.size,1,none⟩ (.slice o2 m.length d2)).setCell ⟨w2.heap.size,2,none⟩ (.slice oR2 hs2.length dR2)).cell? ⟨v1.heap.size,0,none⟩=some (.int .i64 key):=setP_cell k0_0 hpz;have s0_1:(((x0.setCell ⟨w2.heap.size,0,none⟩ (.int .i64 key)).setCell ⟨w2.heap.size,1,none⟩ (.slice o2 m.length d2)).setCell ⟨w2.heap.size,2,none⟩ (.slice oR2 hs2.length dR2)).cell? ⟨v1.heap.size,1,none⟩=some (.slice o l.length c):=setP_cell k0_1 hpz;have s0_2:(((x0.setCell ⟨w2.heap.size,0,none⟩ (.int .i64 key)).setCell ⟨w2.heap.size,1,none⟩ (.slice o2 m.length d2)).setCell ⟨w2.heap.size,2,none⟩ (.slice oR2 hs2.length dR2)).cell? ⟨v1.heap.size,2,none⟩=some (.slice oR hs.length cR):=setP_cell k0_2 hpz;have s0_3:(((x0.setCell ⟨w2.heap.size,0,none⟩ (.int .i64 key)).setCell ⟨w2.heap.size,1,none⟩ (.slice o2 m.length d2)).setCell ⟨w2.heap.size,2,none⟩ (.slice oR2 hs2.length dR2)).cell? ⟨w.heap.size,1,none⟩=some (.slice (some ⟨b,off,none⟩) cs.length cap):=setP_cell k0_3 hyz;have s0_4:(((x0.setCell ⟨w2.heap.size,0,none⟩ (.int .i64 key)).setCell ⟨w2.heap.size,1,none⟩ (.slice o2 m.length d2)).setCell ⟨w2.heap.size,2,none⟩ (.slice oR2 hs2.length dR2)).cell? ⟨b,off+t * 3,none⟩=some (.int .i64 x):=setP_cell k0_4 hbz;have s0_5:(((x0.setCell ⟨w2.heap.size,0,none⟩ (.int .i64 key)).setCell ⟨w2.heap.size,1,none⟩ (.slice o2 m.length d2)).setCell ⟨w2.heap.size,2,none⟩ (.slice oR2 hs2.length dR2)).cell? ⟨b,off+t * 3+1,none⟩=some (.int .i64 y):=setP_cell k0_5 hbz;have s0_6:(((x0.setCell ⟨w2.heap.size,0,none⟩ (.int .i64 key)).setCell ⟨w2.heap.size,1,none⟩ (.slice o2 m.length d2)).setCell ⟨w2.heap.size,2,none⟩ (.slice oR2 hs2.length dR2)).cell? ⟨b,off+t * 3+2,none⟩=some (.int .i64 u):=setP_cell k0_6 hbz;clear hb))
      all_goals (go_wp2_with fail;go_meet)
      all_goals first
       |with_reducible exact finJ hZ0 hp0 (Nat.le_refl _) ow2 owR rfl hl3
       |with_reducible exact finJn hp0 ow2 owR rfl hl3
     case rest=>
     obtain ⟨B,hs',o',c',oR',cR',rfl,rfl,HPX,Hbl,hB1,HS3'⟩:=hcut
     have HBw:=hide (HBB2.out.trans (Hbl.out.mono HBB2.out.size))
     have hbp:=(Hbl.out.block v1.heap.size hpz).trans HPB2.out.box
     have x0:=bx_cell HPX.out.box 0 _ rfl
     have x1:=bx_cell HPX.out.box 1 _ rfl
     have x2:=bx_cell HPX.out.box 2 _ rfl
     have d0:=bx_cell hbp 0 _ rfl
     have d1:=bx_cell hbp 1 _ rfl
     have d2:=bx_cell hbp 2 _ rfl
     have f0:=bx_frozen hbp 0
     have f1:=bx_frozen hbp 1
     have f2:=bx_frozen hbp 2
     have HPN:=hide (PBox.set (key:=key) hbp rfl HPX.out.backs HPX.out.ring rfl)
     have HBN:=hide (setP_below (HBR2.out.trans (Hbl.out.mono hzv)) (Nat.le_refl _) (.int .i64 key) (.slice o' m.length c') (.slice oR' hs'.length cR'))
     clear p0 p1 p2 y1 c0 c1 c2 hbp
     go_wp2
     go_roundw
     case rel=> exact ⟨t+1,m,hs',o',c',oR',cR',by omega,by go_num,HPN.out,HNX.out,HS3'.out,HBN.out⟩
     case measure=> simp [intOf];omega
  ·have e:t=cs.length:=by omega
   subst e
   have HRS:=hide (show (runTo cs cs.length).isSome=true by rw [HRUN.out];rfl)
   clear z0 z1 z2 zz p0 p1 p2 zp hW0 hW1 HP hik HB HRUN
   have hlz:¬((cs.length:Int) < (cs.length:Int)):=by omega
   go_wp2
   go_ret
   exact ⟨by rw [HRS.out];rfl,HBB.out⟩
theorem specJournalOk_any (key safe:Int) (o:Option Addr) (cap:Nat) (cs:List Cd) (w:World) (hR:RdC w.heap.size w o cs) (hl:cs.length≤1048576):
  Calls Tryz.prog 88 #[jrn key (.slice o cs.length cap) safe] w fun e w'=> e=.returned (.bool (journalB key cs safe))∧Below w.heap.size w w':=by
 by_cases hall:keyB key=true∧cs.length≤100∧0≤safe∧safe≤(cs.length:Int)
 ·obtain ⟨h1,h2,h3,h4⟩:=hall
  have e:journalB key cs safe=(runTo cs cs.length).isSome:=by unfold journalB;simp [h1,h2,h3,h4]
  rw [e]
  rcases hR with hR|⟨b,off,rfl,hbl,hcell⟩
  ·subst hR
   exact specJ_loop key safe 0 0 cap [] w (fun h=> absurd rfl h) (fun i hi=> absurd hi (Nat.not_lt_zero _)) h1 h2 h3 h4 o (fun h=> absurd rfl h)
  ·exact specJ_loop key safe b off cap cs w (fun _=> hbl) hcell h1 h2 h3 h4 _ (fun _=> rfl)
 have HE:=hide (show journalB key cs safe=false by
  rw [Bool.eq_false_iff];intro h;unfold journalB at h;simp only [Bool.and_eq_true,decide_eq_true_eq] at h;exact hall ⟨h.1.1.1.1,h.1.1.1.2,h.1.1.2,h.1.2⟩)
 have hik:=l3key_any key
 obtain ⟨W0,hW0⟩:∃W,(w.alloc (.cells #[.int .i64 key,.slice o cs.length cap,.int .i64 safe] 43))=W:=⟨_,rfl⟩
 have hb_W0:Below w.heap.size w W0:=by rw [←hW0];exact ((Below.refl _ _).alloc (Nat.le_refl _) _)
 have HB:=hide hb_W0
 clear hb_W0
 have zz:w.heap.size < W0.heap.size:=by rw [←hW0];simp
 have z0:W0.cell? ⟨w.heap.size,0,none⟩=some (.int .i64 key):=by rw [←hW0];simp [go_sem]
 have z1:W0.cell? ⟨w.heap.size,1,none⟩=some (.slice o cs.length cap):=by rw [←hW0];simp [go_sem]
 have z2:W0.cell? ⟨w.heap.size,2,none⟩=some (.int .i64 safe):=by rw [←hW0];simp [go_sem]
 clear hR
 cases hk:keyB key with
 |false=>
  rw [hk] at hik
  clear hall
  go_enter Tryz.func88,Tryz.ntmps88
  go_wp2_with (go_at_call 54;refine (hik _).mono ?_;rintro e w9 ⟨rfl,rfl⟩)
  go_ret
  exact ⟨by rw [HE.out];rfl,HB.out⟩
 |true=>
  by_cases h2:cs.length≤100
  ·by_cases h3:0≤safe
   ·by_cases h4:safe≤(cs.length:Int)
    ·exact absurd ⟨hk,h2,h3,h4⟩ hall
    ·skip
     rw [hk] at hik
     have q1:decide (100 < (cs.length:Int))=false:=decide_eq_false (by omega)
     have q2:decide (safe < 0)=false:=decide_eq_false (by omega)
     have q3:decide ((cs.length:Int) < safe)=true:=decide_eq_true (by omega)
     clear hall
     go_enter Tryz.func88,Tryz.ntmps88
     go_wp2_with (go_at_call 54;refine (hik _).mono ?_;rintro e w9 ⟨rfl,rfl⟩)
     go_ret
     exact ⟨by rw [HE.out];rfl,HB.out⟩
   ·skip
    rw [hk] at hik
    have q1:decide (100 < (cs.length:Int))=false:=decide_eq_false (by omega)
    have q2:decide (safe < 0)=true:=decide_eq_true (by omega)
    clear hall
    go_enter Tryz.func88,Tryz.ntmps88
    go_wp2_with (go_at_call 54;refine (hik _).mono ?_;rintro e w9 ⟨rfl,rfl⟩)
    go_ret
    exact ⟨by rw [HE.out];rfl,HB.out⟩
  ·skip
   rw [hk] at hik
   have q1:decide (100 < (cs.length:Int))=true:=decide_eq_true (by omega)
   clear hall
   go_enter Tryz.func88,Tryz.ntmps88
   go_wp2_with (go_at_call 54;refine (hik _).mono ?_;rintro e w9 ⟨rfl,rfl⟩)
   go_ret
   exact ⟨by rw [HE.out];rfl,HB.out⟩
def PTabs (w:World) (base:Nat) (key:Int) (hs:List Hd) (R:List (List Bk)):Prop:=hs.length=R.length∧∀i,i < R.length→∃o3 c3 hs8,hs.getD i (none,0,0)=(o3,8,c3)∧ownL layH 60 w base (.slice o3 8 c3) hs8∧Tab (fun b=> pairI key b (R.getD i [])) 8 w base hs8
theorem PTabs.kept {w w':World} {base:Nat} {key:Int} {hs:List Hd} {R:List (List Bk)} (h:PTabs w base key hs R) (hb:Below w.heap.size w w'):PTabs w' base key hs R:=
 ⟨h.1,fun i hi=> by obtain ⟨o3,c3,hs8,e,h1,h2⟩:=h.2 i hi;exact ⟨o3,c3,hs8,e,own_kept h1 hb,h2.kept hb⟩⟩
theorem PTabs.putB {w:World} {base:Nat} {key:Int} {hs:List Hd} {R:List (List Bk)} {B:Nat} {c:Array Value} (h:PTabs w base key hs R) (hB:w.heap[B]? =some (.cells c 46 (0,0))) (j:Nat) (u:Value):PTabs (w.setCell ⟨B,j,none⟩ u) base key hs R:=
 ⟨h.1,fun i hi=> by obtain ⟨o3,c3,hs8,e,h1,h2⟩:=h.2 i hi;exact ⟨o3,c3,hs8,e,own_putB h1 hB neP2 j u,h2.grown (grown_set w B j u) (fun q hq=> own_box (h2.row q hq) hB neP3)⟩⟩
theorem PTabs.setP {w:World} {base:Nat} {key:Int} {hs:List Hd} {R:List (List Bk)} {B:Nat} {c:Array Value} (h:PTabs w base key hs R) (hB:w.heap[B]? =some (.cells c 46 (0,0))) (x y z:Value):PTabs (Go.Proofs.YtgplppfbinfelaaGreat.setP w B x y z) base key hs R:=
 ((h.putB hB 0 x).putB (box_put hB 0 x) 1 y).putB (box_put (box_put hB 0 x) 1 y) 2 z
theorem PTabs.low {w:World} {base:Nat} {key:Int} {hs:List Hd} {R:List (List Bk)} {B:Nat} (h:PTabs w base key hs R) (hB:B < base) (j:Nat) (u:Value):PTabs (w.setCell ⟨B,j,none⟩ u) base key hs R:=
 ⟨h.1,fun i hi=> by
  obtain ⟨o3,c3,hs8,e,h1,h2⟩:=h.2 i hi
  refine ⟨o3,c3,hs8,e,own_low h1 hB j u,h2.grown (grown_set w B j u) (fun q hq=> ?_)⟩
  cases hob:(hv hs8 q).ownBlock with
  |none=> exact .inl rfl
  |some b=> exact .inr (fun e=> by have:=((h2.row q hq).lt b hob).1;injection e with e;omega)⟩
theorem PTabs.mono {w:World} {base b2:Nat} {key:Int} {hs:List Hd} {R:List (List Bk)} (h:PTabs w base key hs R) (hb:b2≤base):PTabs w b2 key hs R:=
 ⟨h.1,fun i hi=> by obtain ⟨o3,c3,hs8,e,h1,h2⟩:=h.2 i hi;exact ⟨o3,c3,hs8,e,own_mono h1 hb,Tab.mono h2 hb⟩⟩
theorem PTabs.cons {w:World} {base:Nat} {key:Int} {hs hs8:List Hd} {R:List (List Bk)} {m:List Bk} {o3:Option Addr} {c3:Nat} (h:PTabs w base key hs R) (h1:ownL layH 60 w base (.slice o3 8 c3) hs8) (h2:Tab (fun b=> pairI key b m) 8 w base hs8):PTabs w base key ((o3,8,c3)::hs) (m::R):=
 ⟨by simp [h.1],fun i hi=> by
  cases i with
  |zero=> exact ⟨o3,c3,hs8,rfl,h1,h2⟩
  |succ i=> simpa using h.2 i (by simpa using hi)⟩
theorem PTabs.take {w:World} {base:Nat} {key:Int} {hs:List Hd} {R:List (List Bk)} (n:Nat) (h:PTabs w base key hs R):PTabs w base key (hs.take n) (R.take n):=
 ⟨by simp [h.1],fun i hi=> by
  have h1:i < n:=by simp at hi;omega
  have h2:i < R.length:=by simp at hi;omega
  have e1:(hs.take n).getD i (none,0,0)=hs.getD i (none,0,0):=by simp [List.getD_eq_getElem?_getD,List.getElem?_take,h1]
  have e2:(R.take n).getD i []=R.getD i []:=by simp [List.getD_eq_getElem?_getD,List.getElem?_take,h1]
  rw [e1,e2];exact h.2 i h2⟩
theorem ptabs_next {w x:World} {base b2:Nat} {key:Int} {hs hs8:List Hd} {R:List (List Bk)} {m:List Bk} {o3:Option Addr} {c3:Nat} (h:PTabs w base key hs R) (hb:Below w.heap.size w x) (h1:ownL layH 60 x b2 (.slice o3 8 c3) hs8) (h2:Tab (fun b=> pairI key b m) 8 x b2 hs8) (hle:base≤b2):PTabs x base key (((o3,8,c3)::hs).take 3) ((m::R).take 3):=
 ((h.kept hb).cons (own_mono h1 hle) (Tab.mono h2 hle)).take 3
def ringR (cs:List Cd):Nat→List (List Bk)
 |0=> [[]]
 |t+1=> (servedOf cs (t+1)::ringR cs t).take 3
theorem runTo_back {cs:List Cd} {t:Nat} (h:(runTo cs cs.length).isSome=true) (ht:t≤cs.length):∃l,runTo cs t=some l:=by
 cases hr:runTo cs t with
 |some l=> exact ⟨l,rfl⟩
 |none=> rw [runTo_none hr ht] at h;cases h
theorem runTo_step {cs:List Cd} {t:Nat} {l:List Bk} (h:(runTo cs cs.length).isSome=true) (ht:t < cs.length) (hl:runTo cs t=some l):∃m,cmdOkB (cs.getD t (0,0,0)).1 (cs.getD t (0,0,0)).2.1 (cs.getD t (0,0,0)).2.2=true∧doL l (cs.getD t (0,0,0)).1 (cs.getD t (0,0,0)).2.1 (cs.getD t (0,0,0)).2.2=some m∧runTo cs (t+1)=some m:=by
 obtain ⟨m,hm⟩:=runTo_back h (show t+1≤cs.length by omega)
 have hs:=runTo_succ ht
 rw [hm,hl] at hs
 simp only [stepO,Option.bind_some] at hs
 split at hs
 ·next hc=> exact ⟨m,hc,hs.symm,hm⟩
 ·cases hs
theorem l4replay_go (key:Int) (b off cap:Nat) (cs:List Cd) (w:World) (hbl:cs.length≠0→b < w.heap.size) (hcell:∀i,i < cs.length→∀j,j < layC.k→w.cell? ⟨b,off+i * layC.k+j,none⟩=(layC.cs (cs.getD i layC.d))[j]?) (hk:keyB key=true) (hl:cs.length≤100) (hrun:(runTo cs cs.length).isSome=true) (ob:Option Addr) (hob:cs.length≠0→ob=some ⟨b,off,none⟩):
  Calls Tryz.prog 91 #[.int .i64 key,.slice ob cs.length cap] w fun e w'=> ∃o c oR cR hs,e=.returned (plv key (.slice o (servedOf cs cs.length).length c) (.slice oR hs.length cR))∧ownK w' w.heap.size (.slice o (servedOf cs cs.length).length c) (servedOf cs cs.length)∧ownL layH 228 w' w.heap.size (.slice oR hs.length cR) hs∧PTabs w' w.heap.size key hs (ringR cs cs.length)∧hs.length≤3∧Below w.heap.size w w':=by
 have HC:=hide hcell
 have HOB:=hide hob
 have HBL:=hide hbl
 have HN:=hide hl
 have HRUN:=hide hrun
 clear hcell hob hbl hrun
 obtain ⟨W0,hW0⟩:∃W,(w.alloc (.cells #[.int .i64 0,.slice none 0 0,.slice none 0 0] 46))=W:=⟨_,rfl⟩
 have hb_W0:Below w.heap.size w W0:=by rw [←hW0];exact ((Below.refl _ _).alloc (Nat.le_refl _) _)
 have HB:=hide hb_W0
 clear hb_W0
 have zr:w.heap.size < W0.heap.size:=by rw [←hW0];simp
 have r0:W0.cell? ⟨w.heap.size,0,none⟩=some (.int .i64 0):=by rw [←hW0];simp [go_sem]
 have r1:W0.cell? ⟨w.heap.size,1,none⟩=some (.slice none 0 0):=by rw [←hW0];simp [go_sem]
 have r2:W0.cell? ⟨w.heap.size,2,none⟩=some (.slice none 0 0):=by rw [←hW0];simp [go_sem]
 have fr0:W0.frozen? ⟨w.heap.size,0,none⟩=false:=by rw [←hW0];simp [go_sem]
 have fr1:W0.frozen? ⟨w.heap.size,1,none⟩=false:=by rw [←hW0];simp [go_sem]
 have fr2:W0.frozen? ⟨w.heap.size,2,none⟩=false:=by rw [←hW0];simp [go_sem]
 have hz0:=zr
 have HL:=hide (l4new_any key W0 hk)
 go_enter Tryz.func91,Tryz.ntmps91
 go_wp2_with fail
 refine (HL.out).mono ?_
 rintro e v1 ⟨gR,rfl,hring,hb⟩
 have HRG:=hide hring
 have hs1:=hb.size
 clear hring
 replace r0:=bC hb r0 zr
 replace r1:=bC hb r1 zr
 replace r2:=bC hb r2 zr
 replace fr0:=bF hb fr0 zr
 replace fr1:=bF hb fr1 zr
 replace fr2:=bF hb fr2 zr
 replace zr:=Nat.lt_of_lt_of_le zr hb.size
 replace HB:=hide (HB.out.trans (hb.mono HB.out.size))
 clear hb
 have r0v:=r0
 have r1v:=r1
 have r2v:=r2
 have f0v:=fr0
 have f1v:=fr1
 have f2v:=fr2
 have zrv:=zr
 have HB1:=HB
 obtain ⟨W1,hW1⟩:∃W,(v1.alloc (.cells #[.int .i64 key,.slice none 0 0,.slice (some ⟨gR,0,none⟩) 1 1] 46))=W:=⟨_,rfl⟩
 have hb_W1:Below v1.heap.size v1 W1:=by rw [←hW1];exact ((Below.refl _ _).alloc (Nat.le_refl _) _)
 replace r0:=bC hb_W1 r0 zr
 replace r1:=bC hb_W1 r1 zr
 replace r2:=bC hb_W1 r2 zr
 replace fr0:=bF hb_W1 fr0 zr
 replace fr1:=bF hb_W1 fr1 zr
 replace fr2:=bF hb_W1 fr2 zr
 replace zr:=Nat.lt_of_lt_of_le zr hb_W1.size
 replace HB:=hide (HB.out.trans (hb_W1.mono HB.out.size))
 clear hb_W1
 have zp:v1.heap.size < W1.heap.size:=by rw [←hW1];simp
 have p0:W1.cell? ⟨v1.heap.size,0,none⟩=some (.int .i64 key):=by rw [←hW1];simp [go_sem]
 have p1:W1.cell? ⟨v1.heap.size,1,none⟩=some (.slice none 0 0):=by rw [←hW1];simp [go_sem]
 have p2:W1.cell? ⟨v1.heap.size,2,none⟩=some (.slice (some ⟨gR,0,none⟩) 1 1):=by rw [←hW1];simp [go_sem]
 obtain ⟨o3,c3,hs3,rg1,rg2,rg3⟩:=HRG.out
 have hb1:Below v1.heap.size v1 W1:=by rw [←hW1];exact (Below.refl _ _).alloc (Nat.le_refl _) _
 have HP:Hid (PBox W1 W0.heap.size v1.heap.size key [] [(o3,8,c3)] none 0 (some ⟨gR,0,none⟩) 1):=⟨by rw [←hW1];exact World.alloc_heap_new v1 _,World.ownsRow_nil _ _ _ _,own_kept rg1 hb1⟩
 have HPT:Hid (PTabs W1 W0.heap.size key [(o3,8,c3)] (ringR cs 0)):=(PTabs.cons (R:=[]) (hs:=[]) ⟨rfl,fun i hi=> absurd hi (Nat.not_lt_zero _)⟩ rg2 rg3).kept hb1
 clear rg1 rg2 rg3 HRG hb1
 go_wp2
 go_loopw [6] (fun iv wr=> ∃(t:Nat) (l:List Bk) (hs:List Hd) (o:Option Addr) (c:Nat) (oR:Option Addr) (cR:Nat),t≤cs.length∧iv=.int .i64 (t:Int)∧Hid (PBox wr W0.heap.size v1.heap.size key l hs o c oR cR)∧Hid (PTabs wr W0.heap.size key hs (ringR cs t))∧Hid (runTo cs t=some l)∧Hid (hs.length≤3)∧Hid (Below v1.heap.size v1 wr))
  (fun iv _=> cs.length - (intOf iv).toNat)
 case atStart=> exact ⟨0,[],_,_,_,_,_,Nat.zero_le _,rfl,HP.out,HPT.out,rfl,(Nat.le_of_ble_eq_true rfl),by rw [←hW1];exact (Below.refl _ _).alloc (Nat.le_refl _) _⟩
 case round=>
  obtain ⟨t,l,hs,o,c,oR,cR,htl,rfl,HPB,HPTB,HRT,HS3,HBR⟩:=hrel
  have hv1:=HBR.out.size
  clear r0 r1 r2 fr0 fr1 fr2 zr p0 p1 p2 zp hW0 hW1 HP HPT HB
  have HBB:Hid (Below w.heap.size w wr):=HB1.out.trans (HBR.out.mono HB1.out.size)
  have hpz:v1.heap.size < wr.heap.size:=(Array.getElem?_eq_some_iff.1 HPB.out.box).1
  by_cases hlt:t < cs.length
  ·skip
   have hlt':(t:Int) < (cs.length:Int):=by omega
   have ht0:(0:Int)≤(t:Int):=by omega
   have hob:=HOB.out (by omega)
   have hbl:=HBL.out (by omega)
   subst hob
   obtain ⟨hbo,hll⟩:=runTo_ok t l (by omega) HRT.out
   obtain ⟨m,hc,hdo,hnx⟩:=runTo_step HRUN.out hlt HRT.out
   obtain ⟨c0,c1,c2⟩:=RdL.cmd (C:=w.heap.size) HC.out t hlt
   replace c0:=(HBB.out.cell (p:=⟨b,off+t * 3,none⟩) hbl).trans c0
   replace c1:=(HBB.out.cell (p:=⟨b,off+t * 3+1,none⟩) hbl).trans c1
   replace c2:=(HBB.out.cell (p:=⟨b,off+t * 3+2,none⟩) hbl).trans c2
   obtain ⟨x,y,u,hxyu⟩:∃x y u,cs.getD t (0,0,0)=(x,y,u):=⟨_,_,_,rfl⟩
   rw [hxyu] at c0 c1 c2 hc hdo
   dsimp only at c0 c1 c2 hc hdo
   clear hxyu
   have HNX:=hide hnx
   have HRN:=hide (show ringR cs (t+1)=(m::ringR cs t).take 3 by rw [ringR];unfold servedOf;rw [hnx];rfl)
   clear hnx
   have hs3:=HS3.out
   have hbz:b < wr.heap.size:=by have:=HBB.out.size;omega
   have hbp:b < v1.heap.size:=by have:=HB1.out.size;omega
   have HRB:=hide (ownL.rds (L:=layK) HPB.out.backs)
   have HRR:=hide (ownL.rds (L:=layH) HPB.out.ring)
   have hcr:=capH HPB.out.ring
   have HY:=hide (fun W (hb:Below wr.heap.size wr W)=> l4do_yes key o c l oR cR hs x y u m W hk hbo hc hdo (by have:=HN.out;omega) ((HRB.out.kept hb (Nat.le_refl _)).le hb.size) ((HRR.out.kept hb (Nat.le_refl _)).le hb.size) hcr hs3)
   clear hc hdo hcr HRB HRR
   have p0:wr.cell? ⟨v1.heap.size,0,none⟩=some (.int .i64 key):=bx_cell HPB.out.box 0 _ rfl
   have p1:wr.cell? ⟨v1.heap.size,1,none⟩=some (.slice o l.length c):=bx_cell HPB.out.box 1 _ rfl
   have p2:wr.cell? ⟨v1.heap.size,2,none⟩=some (.slice oR hs.length cR):=bx_cell HPB.out.box 2 _ rfl
   have hW0v:W0.heap.size≤wr.heap.size:=by omega
   go_wp2
   go_region_with (first|(go_at_call 147;have hc_:=HY.out wr.drew (Below.drew (Below.refl _ _));with_reducible refine hc_.mono ?_;clear hc_;rintro e x0 ⟨o2,d2,oR2,n2,dR2,o3,d3,hs3',rfl,hn2,ow2,owR,ow3,tb3,hb⟩;have hp0:Below wr.heap.size wr x0:=Below.trans (show Below wr.heap.size wr wr.drew from Below.drew (Below.refl _ _)) (hb.mono (by simp));have sp0:=hp0.size;have ow2:=own_mono ow2 (show W0.heap.size≤_ by (try simp) <;> omega);have owR:=own_mono owR (show W0.heap.size≤_ by (try simp) <;> omega);have pt:=ptabs_next HPTB.out hp0 ow3 tb3 (show W0.heap.size≤_ by (try simp) <;> omega);rw [←HRN.out] at pt;have hl3:=List.length_take_le 3 ((o3,8,d3)::hs);generalize List.take 3 ((o3,8,d3)::hs)=hs2 at hn2 owR hl3 pt;subst hn2;have k0:=bC hp0 c0 hbz;have k1:=bC hp0 c1 hbz;have k2:=bC hp0 c2 hbz;have hbx:=(hp0.block v1.heap.size hpz).trans HPB.out.box;have pc0:x0.cell? ⟨v1.heap.size,0,none⟩=some (.int .i64 key):=bx_cell hbx 0 _ rfl;have pf0:=bx_frozen hbx 0;have pc1:x0.cell? ⟨v1.heap.size,1,none⟩=some (.slice o l.length c):=bx_cell hbx 1 _ rfl;have pf1:=bx_frozen hbx 1;have pc2:x0.cell? ⟨v1.heap.size,2,none⟩=some (.slice oR hs.length cR):=bx_cell hbx 2 _ rfl;have pf2:=bx_frozen hbx 2;have s0:(((x0.setCell ⟨v1.heap.size,0,none⟩ (.int .i64 key)).setCell ⟨v1.heap.size,1,none⟩ (.slice o2 m.length d2)).setCell ⟨v1.heap.size,2,none⟩ (.slice oR2 hs2.length dR2)).cell? ⟨b,off+t * 3,none⟩=some (.int .i64 x):=setP_cell k0 hbp;have s1:(((x0.setCell ⟨v1.heap.size,0,none⟩ (.int .i64 key)).setCell ⟨v1.heap.size,1,none⟩ (.slice o2 m.length d2)).setCell ⟨v1.heap.size,2,none⟩ (.slice oR2 hs2.length dR2)).cell? ⟨b,off+t * 3+1,none⟩=some (.int .i64 y):=setP_cell k1 hbp;have s2:(((x0.setCell ⟨v1.heap.size,0,none⟩ (.int .i64 key)).setCell ⟨v1.heap.size,1,none⟩ (.slice o2 m.length d2)).setCell ⟨v1.heap.size,2,none⟩ (.slice oR2 hs2.length dR2)).cell? ⟨b,off+t * 3+2,none⟩=some (.int .i64 u):=setP_cell k2 hbp;have HPN:=hide (PBox.set (key:=key) hbx rfl ow2 owR rfl);have HPTN:=hide (PTabs.setP pt hbx (.int .i64 key) (.slice o2 m.length d2) (.slice oR2 hs2.length dR2));have HL3:=hide hl3;have HP0:=hide hp0;clear hb ow2 owR ow3 tb3 pt hl3 hp0 hbx))
   all_goals (have HBN:=hide (setP_below (HBR.out.trans (HP0.out.mono hv1)) (Nat.le_refl _) (.int .i64 key) (.slice o2 m.length d2) (.slice oR2 hs2.length dR2));go_wp2;go_roundw;(case rel=> exact ⟨t+1,m,hs2,o2,d2,oR2,dR2,by omega,by go_num,HPN.out,HPTN.out,HNX.out,HL3.out,HBN.out⟩);(case measure=> (simp [intOf];omega)))
  ·have e:t=cs.length:=by omega
   subst e
   have hlz:¬((cs.length:Int) < (cs.length:Int)):=by omega
   have hsv:servedOf cs cs.length=l:=by unfold servedOf;rw [HRT.out];rfl
   have HSV:=hide hsv
   clear hsv
   have p0:wr.cell? ⟨v1.heap.size,0,none⟩=some (.int .i64 key):=bx_cell HPB.out.box 0 _ rfl
   have p1:wr.cell? ⟨v1.heap.size,1,none⟩=some (.slice o l.length c):=bx_cell HPB.out.box 1 _ rfl
   have p2:wr.cell? ⟨v1.heap.size,2,none⟩=some (.slice oR hs.length cR):=bx_cell HPB.out.box 2 _ rfl
   have q0:=bC HBR.out r0v zrv
   have fq0:=bF HBR.out f0v zrv
   have q1:=bC HBR.out r1v zrv
   have fq1:=bF HBR.out f1v zrv
   have q2:=bC HBR.out r2v zrv
   have fq2:=bF HBR.out f2v zrv
   go_wp2
   refine bodyPost_ret (v:=plv key (.slice o l.length c) (.slice oR hs.length cR)) (by simp [results,Tryz.results91,go_sem,q0,q1,q2]) rfl ⟨o,c,oR,cR,hs,by rw [HSV.out], ?_, ?_, ?_,HS3.out,setP_below HBB.out (Nat.le_refl _) _ _ _⟩
   ·rw [HSV.out];exact own_mono (own_low (own_low (own_low HPB.out.backs hz0 0 _) hz0 1 _) hz0 2 _) (by omega)
   ·exact own_mono (own_low (own_low (own_low HPB.out.ring hz0 0 _) hz0 1 _) hz0 2 _) (by omega)
   ·exact PTabs.mono (((HPTB.out.low hz0 0 _).low hz0 1 _).low hz0 2 _) (by omega)
theorem journal_facts {key:Int} {cs:List Cd} {safe:Int} (h:journalB key cs safe=true):keyB key=true∧cs.length≤100∧0≤safe∧safe≤(cs.length:Int):=by
 unfold journalB at h
 simp only [Bool.and_eq_true,decide_eq_true_eq] at h
 exact ⟨h.1.1.1.1,h.1.1.1.2,h.1.1.2,h.1.2⟩
theorem cloneN_any (o:Option Addr) (cap:Nat) (l:List Cd) (n:Nat) (hnl:n=l.length) (w:World) (hR:RdC w.heap.size w o l) (hn:o=none→cap=0) (hl:l.length≤1048576):
  Calls Tryz.prog 204 #[.slice o n cap] w fun e w'=> ∃o2 c2,e=.returned (.slice o2 n c2)∧ownC w' w.heap.size (.slice o2 n c2) l∧Below w.heap.size w w':=by
 subst hnl
 refine (cloneCmds_any o cap l w hR hn hl).mono ?_
 rintro e w' ⟨v,rfl,h1,h2⟩
 obtain ⟨o2,c2,e2,_⟩:=ownL.open (L:=layC) h1
 subst e2
 exact ⟨o2,c2,rfl,h1,h2⟩
theorem journal_run {key:Int} {cs:List Cd} {safe:Int} (h:journalB key cs safe=true):(runTo cs cs.length).isSome=true:=by
 unfold journalB at h
 simp only [Bool.and_eq_true] at h
 exact h.2
theorem served_facts {key:Int} {cs:List Cd} {safe:Int} (h:journalB key cs safe=true):backsOkB (servedOf cs cs.length)=true∧(servedOf cs cs.length).length≤100:=by
 obtain ⟨l,hl⟩:=runTo_back (journal_run h) (Nat.le_refl _)
 have h1:=runTo_ok cs.length l (Nat.le_refl _) hl
 have h2:=(journal_facts h).2.1
 unfold servedOf
 rw [hl]
 exact ⟨h1.1,by simp only [Option.getD_some];omega⟩
theorem l4replay_any (key:Int) (o:Option Addr) (cap:Nat) (cs:List Cd) (w:World) (hR:RdC w.heap.size w o cs) (hk:keyB key=true) (hl:cs.length≤100) (hrun:(runTo cs cs.length).isSome=true):
  Calls Tryz.prog 91 #[.int .i64 key,.slice o cs.length cap] w fun e w'=> ∃o c oR cR hs,e=.returned (plv key (.slice o (servedOf cs cs.length).length c) (.slice oR hs.length cR))∧ownK w' w.heap.size (.slice o (servedOf cs cs.length).length c) (servedOf cs cs.length)∧ownL layH 228 w' w.heap.size (.slice oR hs.length cR) hs∧PTabs w' w.heap.size key hs (ringR cs cs.length)∧hs.length≤3∧Below w.heap.size w w':=by
 rcases hR with hR|⟨b,off,rfl,hbl,hcell⟩
 ·subst hR
  exact l4replay_go key 0 0 cap [] w (fun h=> absurd rfl h) (fun i hi=> absurd hi (Nat.not_lt_zero _)) hk hl hrun o (fun h=> absurd rfl h)
 ·exact l4replay_go key b off cap cs w (fun _=> hbl) hcell hk hl hrun _ (fun _=> rfl)
theorem cloneJournal_any (key safe:Int) (o:Option Addr) (cap:Nat) (l:List Cd) (w:World) (hR:RdC w.heap.size w o l) (hn:o=none→cap=0) (hl:l.length≤1048576):
  Calls Tryz.prog 160 #[jrn key (.slice o l.length cap) safe] w fun e w'=> ∃o2 c2,e=.returned (jrn key (.slice o2 l.length c2) safe)∧ownC w' w.heap.size (.slice o2 l.length c2) l∧Below w.heap.size w w':=by
 obtain ⟨W0,hW0⟩:∃W,((w.alloc (.cells #[.int .i64 key,.slice o l.length cap,.int .i64 safe] 43)).alloc (.cells #[.int .i64 0,.slice none 0 0,.int .i64 0] 43))=W:=⟨_,rfl⟩
 have hb_W0:Below w.heap.size w W0:=by rw [←hW0];exact (((Below.refl _ _).alloc (Nat.le_refl _) _).alloc (by simp <;> omega) _)
 have HB:=hide hb_W0
 clear hb_W0
 have zz:w.heap.size < W0.heap.size:=by rw [←hW0];simp <;> omega
 have z0:W0.cell? ⟨w.heap.size,0,none⟩=some (.int .i64 key):=by rw [←hW0];simp [go_sem]
 have z1:W0.cell? ⟨w.heap.size,1,none⟩=some (.slice o l.length cap):=by rw [←hW0];simp [go_sem]
 have z2:W0.cell? ⟨w.heap.size,2,none⟩=some (.int .i64 safe):=by rw [←hW0];simp [go_sem]
 have fz0:W0.frozen? ⟨w.heap.size,0,none⟩=false:=by rw [←hW0];simp [go_sem]
 have fz1:W0.frozen? ⟨w.heap.size,1,none⟩=false:=by rw [←hW0];simp [go_sem]
 have fz2:W0.frozen? ⟨w.heap.size,2,none⟩=false:=by rw [←hW0];simp [go_sem]
 have zr:w.heap.size+1 < W0.heap.size:=by rw [←hW0];simp
 have r0:W0.cell? ⟨w.heap.size+1,0,none⟩=some (.int .i64 0):=by rw [←hW0];simp [go_sem]
 have r1:W0.cell? ⟨w.heap.size+1,1,none⟩=some (.slice none 0 0):=by rw [←hW0];simp [go_sem]
 have r2:W0.cell? ⟨w.heap.size+1,2,none⟩=some (.int .i64 0):=by rw [←hW0];simp [go_sem]
 have fr0:W0.frozen? ⟨w.heap.size+1,0,none⟩=false:=by rw [←hW0];simp [go_sem]
 have fr1:W0.frozen? ⟨w.heap.size+1,1,none⟩=false:=by rw [←hW0];simp [go_sem]
 have fr2:W0.frozen? ⟨w.heap.size+1,2,none⟩=false:=by rw [←hW0];simp [go_sem]
 have hzr:=zr
 have HCL:=hide (cloneN_any o cap l l.length rfl W0 ((hR.kept HB.out (Nat.le_refl _)).le HB.out.size) hn hl)
 clear hR
 go_enter Tryz.func160,Tryz.ntmps160
 go_wp2_with fail
 refine (HCL.out).mono ?_
 rintro e v1 ⟨o2,c2,rfl,ow2,hb⟩
 have HO:=hide ow2
 have hs1:=hb.size
 clear ow2
 replace z0:=bC hb z0 zz
 replace z1:=bC hb z1 zz
 replace z2:=bC hb z2 zz
 replace fz0:=bF hb fz0 zz
 replace fz1:=bF hb fz1 zz
 replace fz2:=bF hb fz2 zz
 replace zz:=Nat.lt_of_lt_of_le zz hb.size
 replace r0:=bC hb r0 zr
 replace r1:=bC hb r1 zr
 replace r2:=bC hb r2 zr
 replace fr0:=bF hb fr0 zr
 replace fr1:=bF hb fr1 zr
 replace fr2:=bF hb fr2 zr
 replace zr:=Nat.lt_of_lt_of_le zr hb.size
 replace HB:=hide (HB.out.trans (hb.mono HB.out.size))
 clear hb
 have hzz:w.heap.size < W0.heap.size:=by omega
 go_wp2
 refine bodyPost_ret (v:=jrn key (.slice o2 l.length c2) safe) (by simp [results,Tryz.results160,go_sem,r0,r1,r2]) rfl ⟨o2,c2,rfl,own_mono (own_low (own_low (own_low (own_low HO.out hzz 1 _) hzr 0 _) hzr 1 _) hzr 2 _) (by omega),setP_below (HB.out.setCell (p:=⟨w.heap.size,1,none⟩) (Nat.le_refl _) _) (Nat.le_succ _) _ _ _⟩
end Go.Proofs.YtgplppfbinfelaaGreat
