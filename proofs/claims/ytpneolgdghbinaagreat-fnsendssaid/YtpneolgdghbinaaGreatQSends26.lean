/- Several texts in one: SL4, ShP, SBSame2, ShBal, SL4b, SJS, SRep, SJCut, SNote, Cut4, SDr4. -/
import Derived.Deep.CutRange
import Derived.Test.YtpneolgdghbinaaGreatQSends25
namespace Go.Proofs.YtpneolgdghbinaaGreat
open Go.ChangeShapes Go.WideShapes Go.ChangeAt Go.RowKit Go.Joins
set_option linter.unusedVariables false
set_option linter.unusedSimpArgs false
set_option maxRecDepth 100000
set_option maxHeartbeats 40000000
theorem Q8F {w:World} {base:Nat} {v:Value} {l:List Bk} (h:Q1i w base v l) {o:Option Addr} {n c:Nat} (e:v=.slice o n c):o=none→c=0:=fun e'=> (InRow.cap (InRow.of h)) n c (by rw [e,e'])
theorem bC {C b j:Nat} {w w':World} {u:Value} (h:Below C w w') (hc:w.cell? ⟨b,j,none⟩=some u) (hz:b < C):w'.cell? ⟨b,j,none⟩=some u:=(h.cell (p:=⟨b,j,none⟩) hz).trans hc
theorem bF {C b j:Nat} {w w':World} (h:Below C w w') (hc:w.frozen? ⟨b,j,none⟩=false) (hz:b < C):w'.frozen? ⟨b,j,none⟩=false:=(h.frozen (p:=⟨b,j,none⟩) hz).trans hc
abbrev plv (k:Int) (vb vr:Value):Value:=.agg #[.int .i64 k,vb,vr]
theorem Q42 {w:World} {x y:Int} {z:Bool} {T:TypeId}:RdK (w.alloc (.cells #[.int .i64 x,.int .i64 y,.bool z] T)).heap.size (w.alloc (.cells #[.int .i64 x,.int .i64 y,.bool z] T)) (some ⟨w.heap.size,0,none⟩) [(x,y,z)]:=
 .inr ⟨w.heap.size,0,rfl,by simp,fun i hi j hj=> by
  have e1:i=0:=by simpa using hi
  subst e1
  match j,hj with
  |0,_=> simp [Q12]
  |1,_=> simp [Q12]
  |2,_=> simp [Q12]⟩
theorem Qd9:(Tryz.prog.info? 51).map (fun i=> (i.zero,i.size,i.bytes))=some (some (.slice none 0 0),1,24):=by kernel_rfl
theorem Q5y:AppOk Q0C 27 51:=⟨Tryz.underlying27,⟨_,_,Qd9,rfl,by decide⟩,by decide,fun a u hu=> by
 simp [Q0C] at hu;subst hu;rfl⟩
theorem Q1P {w:World} {base s n:Nat} {e T:TypeId} {v:Value} {xs:List Value} {B:Nat} {c:Array Value} (h:w.ownsRow base e s v n xs) (hB:w.heap[B]? =some (.cells c T (0,0))) (he:e≠T):v.ownBlock=none∨v.ownBlock≠some B:=by
 rcases h.2 with ⟨h1,h2⟩|⟨g,cap,cur,h1,hb,hc,_⟩
 ·left;rw [h1];rfl
 ·right
  rw [h1]
  intro e'
  simp [Value.ownBlock] at e'
  subst e'
  rw [hc] at hB
  simp at hB
  exact he hB.2
theorem Q0D (w:World) (B j:Nat) (u:Value):w.grownBy (w.setCell ⟨B,j,none⟩ u) (some B):=
 ⟨rfl,rfl,rfl,by simp [World.setCell],fun k hk hne=> Below.heap_setCell w ⟨B,j,none⟩ u k (fun e=> hne (by rw [e]))⟩
theorem Q06 {W:World} {B:Nat} {c:Array Value} {T:TypeId} (h:W.heap[B]? =some (.cells c T (0,0))) (j:Nat) (u:Value):(W.setCell ⟨B,j,none⟩ u).heap[B]? =some (.cells (c.setIfInBounds j u) T (0,0)):=by
 simp [World.setCell,Array.getElem?_modify,h]
theorem Q00 {W:World} {B:Nat} {c:Array Value} {t:TypeId} (h:W.heap[B]? =some (.cells c t (0,0))) (j:Nat) (u:Value) (hj:c[j]? =some u):W.cell? ⟨B,j,none⟩=some u:=by
 simp [World.cell?,h,hj]
theorem Q01 {W:World} {B:Nat} {c:Array Value} {t:TypeId} (h:W.heap[B]? =some (.cells c t (0,0))) (j:Nat):W.frozen? ⟨B,j,none⟩=false:=by
 simp [World.frozen?,h]
structure St (W0 W:World) (lv:Value) (s:List Bk) (B:Nat) (x y:Int) (u:Bool):Prop where
 own:Q1i W W0.heap.size lv s
 bel:Below W0.heap.size W0 W
 box:W.heap[B]? =some (.cells #[.int .i64 x,.int .i64 y,.bool u] 119 (0,0))
 ge:W0.heap.size≤B
 ne:∀b,lv.ownBlock=some b→b≠B
theorem St.start {W0 wr:World} {lv:Value} {s:List Bk} {x y:Int} {u:Bool} (ho:Q1i wr W0.heap.size lv s) (hb:Below W0.heap.size W0 wr):St W0 (wr.alloc (.cells #[.int .i64 x,.int .i64 y,.bool u] 119)) lv s wr.heap.size x y u:=
 ⟨World.ownsRow.alloc ho _,hb.alloc hb.size _,World.alloc_heap_new wr _,hb.size,fun b e=> by have:=(ho.lt b e).2;omega⟩
theorem St.app {W0 W w5:World} {lv v5:Value} {s:List Bk} {B:Nat} {x y:Int} {u:Bool} {a:Bk} {A:Obj} (h:St W0 W lv s B x y u) (ho:Q1i w5 W0.heap.size v5 (s++[a])) (hg:(W.alloc A).grownBy w5 lv.ownBlock) (hn:v5.ownBlock=lv.ownBlock∨v5.ownBlock=some (W.heap.size+1)):St W0 w5 v5 (s++[a]) B x y u:=by
 have hB:B < W.heap.size:=(Array.getElem?_eq_some_iff.1 h.box).1
 have hs:=h.bel.size
 refine ⟨ho,(h.bel.alloc hs A).grown hg (by simp;omega) (fun k e=> (h.own.lt k e).1), ?_,h.ge, ?_⟩
 ·rw [hg.block B (by simp;omega) (fun e=> h.ne B e.symm rfl),Below.heap_alloc _ _ _ hB]
  exact h.box
 ·intro b e
  rcases hn with hn|hn
  ·exact h.ne b (by rw [←hn,e])
  ·rw [hn] at e
   simp at e
   omega
theorem St.put1 {W0 W:World} {lv:Value} {s:List Bk} {B:Nat} {x y:Int} {u:Bool} (h:St W0 W lv s B x y u) (g:Int):St W0 (W.setCell ⟨B,1,none⟩ (.int .i64 g)) lv s B x g u:=
 ⟨World.ownsRow.kept h.own (Q0D W B 1 _) (by cases hob:lv.ownBlock with
  |none=> exact .inl rfl
  |some b=> exact .inr (fun e=> h.ne b hob (by injection e))),h.bel.setCell (p:=⟨B,1,none⟩) h.ge _,by rw [Q06 h.box];rfl,h.ge,h.ne⟩
theorem St.put2 {W0 W:World} {lv:Value} {s:List Bk} {B:Nat} {x y:Int} {u:Bool} (h:St W0 W lv s B x y u) (d:Bool):St W0 (W.setCell ⟨B,2,none⟩ (.bool d)) lv s B x y d:=
 ⟨World.ownsRow.kept h.own (Q0D W B 2 _) (by cases hob:lv.ownBlock with
  |none=> exact .inl rfl
  |some b=> exact .inr (fun e=> h.ne b hob (by injection e))),h.bel.setCell (p:=⟨B,2,none⟩) h.ge _,by rw [Q06 h.box];rfl,h.ge,h.ne⟩
def RingO (w:World) (base:Nat) (v:Value) (T:Nat→List Int) (hsR:List Hd):Prop:=∃o3 c3 hs3,ownL Q0C 51 w base v ((o3,8,c3)::hsR)∧ownL Q0C 47 w base (.slice o3 8 c3) hs3∧Tab T 8 w base hs3
theorem Q9a:(51:TypeId)≠29:=by decide
theorem QhM:(47:TypeId)≠29:=by decide
theorem Qi2:(3:TypeId)≠29:=by decide
theorem Q7p:(119:TypeId)≠29:=by decide
theorem QhR:(47:TypeId)≠51:=by decide
theorem Qi8:(3:TypeId)≠51:=by decide
theorem Q0o {w:World} {base s n:Nat} {e:TypeId} {v:Value} {xs:List Value} {B:Nat} {c:Array Value} (h:w.ownsRow base e s v n xs) (hB:w.heap[B]? =some (.cells c 29 (0,0))) (he:e≠29) (j:Nat) (u:Value):(w.setCell ⟨B,j,none⟩ u).ownsRow base e s v n xs:=
 World.ownsRow.kept h (Q0D w B j u) (Q1P h hB he)
theorem Q0k {w:World} {base s n:Nat} {e:TypeId} {v:Value} {xs:List Value} {B:Nat} (h:w.ownsRow base e s v n xs) (hB:B < base) (j:Nat) (u:Value):(w.setCell ⟨B,j,none⟩ u).ownsRow base e s v n xs:=
 World.ownsRow.kept h (Q0D w B j u) (by
  cases hob:v.ownBlock with
  |none=> exact .inl rfl
  |some b=> exact .inr (fun e=> by have:=(h.lt b hob).1;injection e with e;omega))
theorem RingO.put {w:World} {base:Nat} {v:Value} {T:Nat→List Int} {hsR:List Hd} {B:Nat} {c:Array Value} (h:RingO w base v T hsR) (hB:w.heap[B]? =some (.cells c 29 (0,0))) (j:Nat) (u:Value):RingO (w.setCell ⟨B,j,none⟩ u) base v T hsR:=by
 obtain ⟨o3,c3,hs3,h1,h2,h3⟩:=h
 exact ⟨o3,c3,hs3,Q0o h1 hB Q9a j u,Q0o h2 hB QhM j u,h3.grown (Q0D w B j u) (fun i hi=> Q1P (h3.row i hi) hB Qi2)⟩
theorem RingO.low {w:World} {base:Nat} {v:Value} {T:Nat→List Int} {hsR:List Hd} {B:Nat} (h:RingO w base v T hsR) (hB:B < base) (j:Nat) (u:Value):RingO (w.setCell ⟨B,j,none⟩ u) base v T hsR:=by
 obtain ⟨o3,c3,hs3,h1,h2,h3⟩:=h
 refine ⟨o3,c3,hs3,Q0k h1 hB j u,Q0k h2 hB j u,h3.grown (Q0D w B j u) (fun i hi=> ?_)⟩
 cases hob:(hv hs3 i).ownBlock with
 |none=> exact .inl rfl
 |some b=> exact .inr (fun e=> by have:=((h3.row i hi).lt b hob).1;injection e with e;omega)
theorem RingO.alloc {w:World} {base:Nat} {v:Value} {T:Nat→List Int} {hsR:List Hd} (h:RingO w base v T hsR) (o:Obj):RingO (w.alloc o) base v T hsR:=by
 obtain ⟨o3,c3,hs3,h1,h2,h3⟩:=h
 exact ⟨o3,c3,hs3,World.ownsRow.alloc h1 o,World.ownsRow.alloc h2 o,h3.kept ((Below.refl _ _).alloc (Kaq _) _)⟩
theorem RingO.isSome {w:World} {base:Nat} {v:Value} {T:Nat→List Int} {hsR:List Hd} (h:RingO w base v T hsR):∃g c,v=.slice (some ⟨g,0,none⟩) (hsR.length+1) c:=by
 obtain ⟨o3,c3,hs3,h1,h2,h3⟩:=h
 obtain ⟨g,c,e⟩:=Q2C h1 (by simp)
 exact ⟨g,c,by rw [e];simp⟩
theorem Q44 (w:World) (o:Option Addr) (n c:Nat) (T:TypeId):ownL Q0C T (w.alloc (.cells #[.slice o n c] T)) w.heap.size (.slice (some ⟨w.heap.size,0,none⟩) 1 1) [(o,n,c)]:=
 ⟨by simp [Q0C],.inr ⟨w.heap.size,1,#[.slice o n c],rfl,Kaq _,heap_alloc_new w _,by simp,by unfold maxLen;omega,by simp [Q0C],by simp [Q0C]⟩⟩
theorem Q2p {V x1:World} {base:Nat} {s v4:Value} {o3:Option Addr} {c3:Nat} {hs3 hsR:List Hd} {T:Nat→List Int} (hs:ownL Q0C 51 V base s [(o3,8,c3)]) (h2:ownL Q0C 47 V base (.slice o3 8 c3) hs3) (h3:Tab T 8 V base hs3) (ho:ownL Q0C 51 x1 base v4 ([(o3,8,c3)]++hsR)) (hg:V.grownBy x1 s.ownBlock):RingO x1 base v4 T hsR:=
 ⟨o3,c3,hs3,ho,World.ownsRow.kept h2 hg (Q2c h2 hs QhR),h3.other hs Qi8 hg⟩
theorem Tab.mono {R:Nat→List Int} {k:Nat} {w:World} {base b2:Nat} {hs:List Hd} (h:Tab R k w base hs) (hb:b2≤base):Tab R k w b2 hs:=⟨h.len,fun i hi=> Q04 (h.row i hi) hb,h.apart⟩
abbrev setP (W:World) (B:Nat) (a b c:Value):World:=((W.setCell ⟨B,0,none⟩ a).setCell ⟨B,1,none⟩ b).setCell ⟨B,2,none⟩ c
theorem Qfq {cur W:World} {B:Nat} {key:Int} {v2 v4:Value} {T:Nat→List Int} {hsR:List Hd} {z0 z1 z2:Value} (hZ:W.heap[B]? =some (.cells #[z0,z1,z2] 29 (0,0))) (hx:Below cur.heap.size cur W) (hB:cur.heap.size≤B) (hr:RingO W cur.heap.size v4 T hsR):
  ∃B' v',Value.pointer (some ⟨B,0,none⟩)=.pointer (some ⟨B',0,none⟩)∧Hid ((setP W B (.int .i64 key) v2 v4).heap[B']? =some (.cells #[.int .i64 key,v2,v'] 29 (0,0)))∧Hid (Below cur.heap.size cur (setP W B (.int .i64 key) v2 v4))∧cur.heap.size≤B'∧B' < (setP W B (.int .i64 key) v2 v4).heap.size∧Hid (RingO (setP W B (.int .i64 key) v2 v4) cur.heap.size v' T hsR):=by
 have h1:=Q06 hZ 0 (.int .i64 key);have h2:=Q06 h1 1 v2;have h3:=Q06 h2 2 v4
 refine ⟨B,v4,rfl,h3,((hx.setCell (p:=⟨B,0,none⟩) hB _).setCell (p:=⟨B,1,none⟩) hB _).setCell (p:=⟨B,2,none⟩) hB _,hB,(Array.getElem?_eq_some_iff.1 h3).1,((hr.put hZ 0 _).put h1 1 _).put h2 2 _⟩
theorem QgR {cur W:World} {key:Int} {v2 v4:Value} {T:Nat→List Int} {hsR:List Hd} (hx:Below cur.heap.size cur W) (hr:RingO W cur.heap.size v4 T hsR):
  ∃B' v',Value.pointer (some ⟨W.heap.size,0,none⟩)=.pointer (some ⟨B',0,none⟩)∧Hid ((W.alloc (.cells #[.int .i64 key,v2,v4] 29)).heap[B']? =some (.cells #[.int .i64 key,v2,v'] 29 (0,0)))∧Hid (Below cur.heap.size cur (W.alloc (.cells #[.int .i64 key,v2,v4] 29)))∧cur.heap.size≤B'∧B' < (W.alloc (.cells #[.int .i64 key,v2,v4] 29)).heap.size∧Hid (RingO (W.alloc (.cells #[.int .i64 key,v2,v4] 29)) cur.heap.size v' T hsR):=
 ⟨W.heap.size,v4,rfl,World.alloc_heap_new W _,hx.alloc hx.size _,hx.size,by simp,hr.alloc _⟩
theorem Q4g {w new:World} {c:Array Value} {T:TypeId} (hb:Below ((w.alloc (.cells c T)).drew).heap.size (w.alloc (.cells c T)).drew new):new.heap[w.heap.size]? =some (.cells c T (0,0)):=by
 have h1:=hb.block w.heap.size (by simp)
 have h2:(w.alloc (.cells c T)).drew.heap[w.heap.size]? =(w.alloc (.cells c T)).heap[w.heap.size]? :=rfl
 exact h1.trans (h2.trans (World.alloc_heap_new w (.cells c T)))
theorem Q3H {V x1:World} {B n:Nat} {c:Array Value} {T:TypeId} (hg:V.grownBy x1 (Value.slice (some ⟨n,0,none⟩) 1 1).ownBlock) (hB:V.heap[B]? =some (.cells c T (0,0))) (hne:B≠n):x1.heap[B]? =some (.cells c T (0,0)):=
 (hg.block B (Array.getElem?_eq_some_iff.1 hB).1 (by simp [Value.ownBlock];exact hne)).trans hB
theorem Q08 {W:World} {B b j:Nat} {u x y z:Value} (h:W.cell? ⟨b,j,none⟩=some u) (hb:b < B):(setP W B x y z).cell? ⟨b,j,none⟩=some u:=
 (((((Below.refl B W).setCell (p:=⟨B,0,none⟩) (Kaq _) x).setCell (p:=⟨B,1,none⟩) (Kaq _) y).setCell (p:=⟨B,2,none⟩) (Kaq _) z).cell (p:=⟨b,j,none⟩) hb).trans h
theorem Q8i (w:World) (ob:Obj) (o:Option Addr) (n c:Nat) (T:TypeId):ownL Q0C T ((w.alloc ob).alloc (.cells #[.slice o n c] T)) (w.heap.size+1) (.slice (some ⟨w.heap.size+1,0,none⟩) 1 1) [(o,n,c)]:=by
 have h:=Q44 (w.alloc ob) o n c T
 rw [World.size_alloc] at h
 exact h
theorem Q3E (w:World) (c:Array Value) (T:TypeId) (ob:Obj):((w.alloc (.cells c T)).alloc ob).heap[w.heap.size]? =some (.cells c T (0,0)):=(Below.heap_alloc _ _ _ (by simp)).trans (World.alloc_heap_new w _)
theorem Q1N (w:World) (c:Array Value) (T:TypeId) (ob:Obj):((w.alloc ob).alloc (.cells c T)).heap[w.heap.size+1]? =some (.cells c T (0,0)):=by
 have h:=World.alloc_heap_new (w.alloc ob) (.cells c T)
 rw [World.size_alloc] at h
 exact h
theorem RingO.cap {w:World} {base n c:Nat} {g:Nat} {T:Nat→List Int} {hsR:List Hd} (h:RingO w base (.slice (some ⟨g,0,none⟩) n c) T hsR):n≤c:=by
 obtain ⟨o3,c3,hs3,h1,h2,h3⟩:=h
 rcases h1.2 with ⟨e,_⟩|⟨g',cap,cur,e,hb,hc,h4,h5,h6,h7⟩
 ·cases e
 ·injection e with e1 e2 e3
  rw [e2,e3]
  exact h4
theorem Q1e {w:World} {B b j q:Nat} {u:Value} (h:b≠B):(w.setCell ⟨B,q,none⟩ u).cell? ⟨b,j,none⟩=w.cell? ⟨b,j,none⟩:=by
 simp only [World.cell?,Below.heap_setCell w ⟨B,q,none⟩ u b h]
theorem Q0P {w:World} {B b j q:Nat} {u:Value} (h:b≠B):(w.setCell ⟨B,q,none⟩ u).frozen? ⟨b,j,none⟩=w.frozen? ⟨b,j,none⟩:=by
 simp only [World.frozen?,Below.heap_setCell w ⟨B,q,none⟩ u b h]
theorem Q6H {w:World} {base g n c:Nat} {e:TypeId} {hs:List Hd} (h:ownL Q0C e w base (.slice (some ⟨g,0,none⟩) n c) hs) (h3:3≤hs.length):ownL Q0C e w base (.slice (some ⟨g,0,none⟩) 3 c) (hs.take 3):=by
 have hn:n=hs.length:=by
  obtain ⟨o',c',e',_⟩:=ownL.open (L:=Q0C) h
  injection e' with _ e2 _
 subst hn
 exact Q81 (L:=Q0C) h 3 h3
theorem RingO.mono {w:World} {base b2:Nat} {v:Value} {T:Nat→List Int} {hsR:List Hd} (h:RingO w base v T hsR) (hb:b2≤base):RingO w b2 v T hsR:=by
 obtain ⟨o3,c3,hs3,h1,h2,h3⟩:=h
 exact ⟨o3,c3,hs3,Q04 h1 hb,Q04 h2 hb,Tab.mono h3 hb⟩
def Q5V (key:Int) (m:List Bk) (hsR:List Hd) (w:World) (e:Ending) (w':World):Prop:=∃o2 c2 oR2 n2 cR2 o3 c3 hs3,e=.returned (.tuple #[plv key (.slice o2 m.length c2) (.slice oR2 n2 cR2),.bool true])∧n2=(((o3,8,c3)::hsR).take 3).length∧Q1i w' w.heap.size (.slice o2 m.length c2) m∧ownL Q0C 51 w' w.heap.size (.slice oR2 n2 cR2) (((o3,8,c3)::hsR).take 3)∧ownL Q0C 47 w' w.heap.size (.slice o3 8 c3) hs3∧Tab (fun b=> Q0Z key b m) 8 w' w.heap.size hs3∧Below w.heap.size w w'
theorem Qde {l:List Bk} {i:Int} (h:Q0x l i=false):Q7d l i= -1:=by unfold Q7d;rw [h];rfl
theorem Qb0 {l:List Bk} {i:Int} (h:Q0x l i=true):Q7d l i=(Q0d l i:Int):=by unfold Q7d;rw [h];rfl
theorem QeI (key:Int) (o:Option Addr) (cap:Nat) (l:List Bk) (oR:Option Addr) (cR:Nat) (hsR:List Hd) (i g:Int) (m:List Bk) (w:World) (hk:Q1C key=true) (hl:Q0a l=true) (hc:Q0E 0 i g=true) (hm:doL l 0 i g=some m) (hlen:l.length≤100) (hR:RdK w.heap.size w o l) (hG:RdL Q0C w.heap.size w oR hsR) (hnR:oR=none→cR=0) (hR3:hsR.length≤3):
  Calls Tryz.prog 95 #[plv key (.slice o l.length cap) (.slice oR hsR.length cR),cmd 0 i g] w fun e w'=> Q5V key m hsR w e w':=by
 obtain ⟨W0,hW0⟩:∃W,(((w.alloc (.cells #[.int .i64 key,.slice o l.length cap,.slice oR hsR.length cR] 29)).alloc (.cells #[.int .i64 0,.int .i64 i,.int .i64 g] 77)).alloc (.cells #[.int .i64 0,.slice none 0 0,.slice none 0 0] 29))=W:=⟨_,rfl⟩
 have hb_W0:Below w.heap.size w W0:=by rw [←hW0];exact ((((Below.refl _ _).alloc (Kaq _) _).alloc (by simp <;> omega) _).alloc (by simp <;> omega) _)
 have HB:=Q02 hb_W0;clear hb_W0
 have zz:w.heap.size < W0.heap.size:=by rw [←hW0];simp <;> omega
 obtain ⟨z0,z1,z2⟩:=alc3v0v3 hW0
 have zu:w.heap.size+1 < W0.heap.size:=by rw [←hW0];simp <;> omega
 obtain ⟨u0,u1,u2⟩:=alc3v1v3 hW0
 have zr:w.heap.size+1+1 < W0.heap.size:=by rw [←hW0];simp
 obtain ⟨r0,r1,r2⟩:=alc3v2v3 hW0;obtain ⟨fr0,fr1,fr2⟩:=alf3v2v3 hW0;have hzr0:=zr;have HR:=Q02 hR;have HG:=Q02 hG;have hW0s:=HB.out.size
 have HF:=Q02 (Q5R o cap l i W0 ((hR.kept HB.out (Kaq _)).le HB.out.size) (by omega) hl)
 have HEND:=Q02 (Qda hl hc hm);have hmok:=Q80 hl hc hm;have hmlen:=Q85 hm
 have hthere:Q0x l i=false:=by rcases Q56 hm with ⟨h,_⟩|⟨_,h,_⟩|⟨_,h,_⟩|⟨_,h,_⟩ <;> first|exact h|(exact absurd h (by decide))|(exact absurd rfl h)
 rw [Qde hthere] at HF HEND
 clear hR hG hl hc
 have HPUT:=Q02 (fun t=> Q8b (l:=l) (k:=0) (i:=i) (g:=g) (fi:= -1) t)
 have Z0:=z0;have Z1:=z1;have Z2:=z2;have ZZ:=zz;have U0:=u0;have U1:=u1;have U2:=u2;have ZU:=zu;have Q0:=r0;have Q1:=r1;have Q2:=r2;have ZQ:=zr;have FQ0:=fr0;have FQ1:=fr1;have FQ2:=fr2
 go_enter Tryz.func95,Tryz.ntmps95
 go_wp2_with fail
 refine HF.out.mono ?_
 rintro e w9 ⟨rfl,rfl⟩
 go_wp2
 go_loopw [7,8,9] (fun lv pv tv wr=> ∃t:Nat,t≤l.length∧tv=.int .i64 (t:Int)∧pv=.bool (Q4N l 0 i g (-1) t).2∧Hid (Q1i wr W0.heap.size lv (Q4N l 0 i g (-1) t).1)∧Hid (Below W0.heap.size W0 wr))
  (fun _ _ tv _=> l.length - (intOf tv).toNat)
 case atStart=> exact ⟨0,Kcq _,rfl,by simp [Q4N],World.ownsRow_nil _ _ _ _,Below.refl _ _⟩
 case round=>
  obtain ⟨t,htl,rfl,rfl,HO,HBR⟩:=hrel;clear HF z0 z1 z2 u0 u1 u2 r0 r1 r2 fr0 fr1 fr2 zz zu zr hW0;have HBB:Hid (Below w.heap.size w wr):=HB.out.trans (HBR.out.mono hW0s)
  by_cases hlt:t < l.length
  ·skip
   have hlt':(t:Int) < (l.length:Int):=by omega
   have ht0:(0:Int)≤(t:Int):=by omega
   rcases HR.out with hR|⟨b,off,rfl,hbl,hcell⟩
   ·subst hR;simp at hlt
   obtain ⟨c0,c1,c2⟩:=RdL.back (C:=w.heap.size) hcell t hlt;replace c0:=(HBB.out.cell (p:=⟨b,off+t * 3,none⟩) hbl).trans c0;replace c1:=(HBB.out.cell (p:=⟨b,off+t * 3+1,none⟩) hbl).trans c1;replace c2:=(HBB.out.cell (p:=⟨b,off+t * 3+2,none⟩) hbl).trans c2;have hrl:=Q50 l 0 i g (-1) t;have HRS:=Q02 (show Q4N l 0 i g (-1) (t+1)=Q4k 0 i g (-1) (Q4N l 0 i g (-1) t) t (l.getD t (0,0,false)) from rfl);have hput:=HPUT.out t;obtain ⟨x,y,u,hxyu⟩:∃x y u,l.getD t (0,0,false)=(x,y,u):=⟨_,_,_,rfl⟩
   rw [hxyu] at c0 c1 c2 HRS
   dsimp only at c0 c1 c2
   clear hxyu hcell;obtain ⟨s1,s2,hs12⟩:∃s1 s2,Q4N l 0 i g (-1) t=(s1,s2):=⟨_,_,rfl⟩
   rw [hs12] at HO HRS hrl hput ⊢
   dsimp only at HO hrl hput ⊢
   clear hs12 HEND HPUT;have z1_wr:=bC HBR.out Z1 ZZ
   have hneg:((t:Int)== -1)=false:=beq_eq_false_iff_ne.2 (by omega)
   have hneg2:¬((t:Int)= -1):=by omega
   cases s2 with
   |true=>
    have HRS2:=HRS.out
    unfold Q4k at HRS2
    simp only [hneg2,if_false,Bool.true_eq_false,false_and] at HRS2
    have HRN:=Q02 HRS2;clear HRS HRS2
    (try have H1:=Q02 h1)
    (try have H3:=Q02 h3)
    (try clear h1 h3)
    (try clear h3)
    obtain ⟨W2,hW2⟩:∃W,wr.alloc (.cells #[.int .i64 x,.int .i64 y,.bool u] 119)=W:=⟨_,rfl⟩
    have HS2:Hid (St W0 W2 u7 s1 wr.heap.size x y u):=by rw [←hW2];exact St.start HO.out HBR.out
    have z1_W2:=bC HS2.out.bel Z1 ZZ;have u0_W2:=bC HS2.out.bel U0 ZU;have u1_W2:=bC HS2.out.bel U1 ZU;have u2_W2:=bC HS2.out.bel U2 ZU;have b0_W2:=Q00 HS2.out.box 0 _ rfl;have b1_W2:=Q00 HS2.out.box 1 _ rfl;have b2_W2:=Q00 HS2.out.box 2 _ rfl;have fb0_W2:=Q01 HS2.out.box 0;have fb1_W2:=Q01 HS2.out.box 1;have fb2_W2:=Q01 HS2.out.box 2
    go_wp2_with (at_builtin;refine Q07 Q3v rfl (.tmp 69) (.tmp 71) rfl W0.heap.size _ _ rfl (World.ownsRow.alloc HS2.out.own (.cells #[.int .i64 x,.int .i64 y,.bool u] 119)) (some ⟨W2.heap.size,0,none⟩) 1 (W2.alloc (.cells #[.int .i64 x,.int .i64 y,.bool u] 119)).heap.size [(x,y,u)] 1 rfl rfl (fun h=> by cases h) Q42 (by simp;omega) (by have:=HS2.out.bel.size;simp;omega) ?_)
    intro v6 w6 ho5 hg5 hn5
    have HSL:=Q02 (HS2.out.app ho5 hg5 hn5);clear ho5 hg5 hn5
    go_wp2
    go_roundw
    case rel=> exact ⟨t+1,by omega,by go_num,by rw [HRN.out],by rw [HRN.out];exact HSL.out.own,HSL.out.bel⟩
    case measure=> simp [intOf];omega
   |false=>
    by_cases hgt:i < x
    ·skip
     have HRS2:=HRS.out
     unfold Q4k at HRS2
     simp only [hneg2,if_false,hgt,and_self,if_true] at HRS2
     have HRN:=Q02 HRS2;clear HRS HRS2
     (try have H1:=Q02 h1)
     (try have H3:=Q02 h3)
     (try clear h1 h3)
     (try clear h3)
     obtain ⟨W2,hW2⟩:∃W,wr.alloc (.cells #[.int .i64 x,.int .i64 y,.bool u] 119)=W:=⟨_,rfl⟩
     have HS2:Hid (St W0 W2 u7 s1 wr.heap.size x y u):=by rw [←hW2];exact St.start HO.out HBR.out
     have z1_W2:=bC HS2.out.bel Z1 ZZ;have u0_W2:=bC HS2.out.bel U0 ZU;have u1_W2:=bC HS2.out.bel U1 ZU;have u2_W2:=bC HS2.out.bel U2 ZU;have b0_W2:=Q00 HS2.out.box 0 _ rfl;have b1_W2:=Q00 HS2.out.box 1 _ rfl;have b2_W2:=Q00 HS2.out.box 2 _ rfl;have fb0_W2:=Q01 HS2.out.box 0;have fb1_W2:=Q01 HS2.out.box 1;have fb2_W2:=Q01 HS2.out.box 2
     go_wp2_with (at_builtin;refine Q07 Q3v rfl (.tmp 48) (.tmp 54) rfl W0.heap.size _ _ rfl (World.ownsRow.alloc HS2.out.own (.cells #[.int .i64 i,.int .i64 g,.bool false] 119)) (some ⟨W2.heap.size,0,none⟩) 1 (W2.alloc (.cells #[.int .i64 i,.int .i64 g,.bool false] 119)).heap.size [(i,g,false)] 1 rfl rfl (fun h=> by cases h) Q42 (by simp;omega) (by have:=HS2.out.bel.size;simp;omega) ?_)
     intro v5 w5 ho5 hg5 hn5
     have HS5:=Q02 (HS2.out.app ho5 hg5 hn5);clear ho5 hg5 hn5;generalize hs5:s1++[(i,g,false)]=s5 at HS5 HRN
     have hl5:s5.length=s1.length+1:=by rw [←hs5];simp
     clear hs5;have z1_w5:=bC HS5.out.bel Z1 ZZ;have b0_w5:=Q00 HS5.out.box 0 _ rfl;have b1_w5:=Q00 HS5.out.box 1 _ rfl;have b2_w5:=Q00 HS5.out.box 2 _ rfl
     go_wp2_with (at_builtin;refine Q07 Q3v rfl (.tmp 69) (.tmp 71) rfl W0.heap.size _ _ rfl (World.ownsRow.alloc HS5.out.own (.cells #[.int .i64 x,.int .i64 y,.bool u] 119)) (some ⟨w5.heap.size,0,none⟩) 1 (w5.alloc (.cells #[.int .i64 x,.int .i64 y,.bool u] 119)).heap.size [(x,y,u)] 1 rfl rfl (fun h=> by cases h) Q42 (by simp;omega) (by have:=HS5.out.bel.size;simp;omega) ?_)
     intro v6 w6 ho5 hg5 hn5
     have HSL:=Q02 (HS5.out.app ho5 hg5 hn5);clear ho5 hg5 hn5
     go_wp2
     go_roundw
     case rel=> exact ⟨t+1,by omega,by go_num,by rw [HRN.out],by rw [HRN.out];exact HSL.out.own,HSL.out.bel⟩
     case measure=> simp [intOf];omega
    ·have hgd:decide (i < x)=false:=decide_eq_false hgt
     have HRS2:=HRS.out
     unfold Q4k at HRS2
     simp only [hneg2,if_false,hgt,and_false] at HRS2
     have HRN:=Q02 HRS2;clear HRS HRS2
     (try have H1:=Q02 h1)
     (try have H3:=Q02 h3)
     (try clear h1 h3)
     (try clear h3)
     obtain ⟨W2,hW2⟩:∃W,wr.alloc (.cells #[.int .i64 x,.int .i64 y,.bool u] 119)=W:=⟨_,rfl⟩
     have HS2:Hid (St W0 W2 u7 s1 wr.heap.size x y u):=by rw [←hW2];exact St.start HO.out HBR.out
     have z1_W2:=bC HS2.out.bel Z1 ZZ;have u0_W2:=bC HS2.out.bel U0 ZU;have u1_W2:=bC HS2.out.bel U1 ZU;have u2_W2:=bC HS2.out.bel U2 ZU;have b0_W2:=Q00 HS2.out.box 0 _ rfl;have b1_W2:=Q00 HS2.out.box 1 _ rfl;have b2_W2:=Q00 HS2.out.box 2 _ rfl;have fb0_W2:=Q01 HS2.out.box 0;have fb1_W2:=Q01 HS2.out.box 1;have fb2_W2:=Q01 HS2.out.box 2
     go_wp2_with (at_builtin;refine Q07 Q3v rfl (.tmp 69) (.tmp 71) rfl W0.heap.size _ _ rfl (World.ownsRow.alloc HS2.out.own (.cells #[.int .i64 x,.int .i64 y,.bool u] 119)) (some ⟨W2.heap.size,0,none⟩) 1 (W2.alloc (.cells #[.int .i64 x,.int .i64 y,.bool u] 119)).heap.size [(x,y,u)] 1 rfl rfl (fun h=> by cases h) Q42 (by simp;omega) (by have:=HS2.out.bel.size;simp;omega) ?_)
     intro v6 w6 ho5 hg5 hn5
     have HSL:=Q02 (HS2.out.app ho5 hg5 hn5);clear ho5 hg5 hn5
     go_wp2
     go_roundw
     case rel=> exact ⟨t+1,by omega,by go_num,by rw [HRN.out],by rw [HRN.out];exact HSL.out.own,HSL.out.bel⟩
     case measure=> simp [intOf];omega
  ·have e:t=l.length:=by omega
   subst e;obtain ⟨s1,s2,hs12⟩:∃s1 s2,Q4N l 0 i g (-1) l.length=(s1,s2):=⟨_,_,rfl⟩;have hrl:=Q50 l 0 i g (-1) l.length;have hput:=HPUT.out l.length
   rw [hs12] at HO HEND hrl hput ⊢
   dsimp only at HO hrl hput ⊢
   clear hs12 HPUT hlt;have z1_wr:=bC HBR.out Z1 ZZ;have u1_wr:=bC HBR.out U1 ZU;have u2_wr:=bC HBR.out U2 ZU
   cases s2 with
   |true=>
    obtain rfl:m=s1:=HEND.out.symm;have HOt:=HO;have HBt:=HBR;obtain ⟨o2,c2,e2,rd2⟩:=ownL.open (L:=Q12) HOt.out;have hcap2:=Q02 (Q8F HOt.out e2);subst e2;have HRD:=Q02 rd2;clear rd2 hput;have HBt2:Hid (Below w.heap.size w wr):=HB.out.trans (HBt.out.mono hW0s);have hszt:=HBt.out.size;have HRH:=Q02 (HG.out.kept HBt2.out (Kaq _));clear HG;have z0_wrt:=bC HBt.out Z0 ZZ;have z2_wrt:=bC HBt.out Z2 ZZ;have q0_wrt:=bC HBt.out Q0 ZQ;have q1_wrt:=bC HBt.out Q1 ZQ;have q2_wrt:=bC HBt.out Q2 ZQ
    have hml:m.length≤1000:=by omega
    go_upto_region 21 with fail
    go_cut [11] from 83 to 94 (fun s11 wx=> ∃B v',s11=.pointer (some ⟨B,0,none⟩)∧Hid (wx.heap[B]? =some (.cells #[.int .i64 key,.slice o2 m.length c2,v'] 29 (0,0)))∧Hid (Below wr.heap.size wr wx)∧wr.heap.size≤B∧B < wx.heap.size∧Hid (RingO wx wr.heap.size v' (fun b=> Q0Z key b m) hsR))
    case first=>
     have hzW:w.heap.size < wr.heap.size:=by have:=ZZ;omega
     go_region_held3 (fun w'=> w'.cell? ⟨w.heap.size,0,none⟩=some (.int .i64 key)∧w'.cell? ⟨w.heap.size,2,none⟩=some (.slice oR hsR.length cR)) (first|with_reducible exact ⟨k1_0,k1_1⟩|with_reducible exact ⟨k0_0,k0_1⟩|with_reducible exact ⟨z0_wrt,z2_wrt⟩|with_reducible exact ⟨Q08 k1_0 (show w.heap.size < wr.heap.size by omega),Q08 k1_1 (show w.heap.size < wr.heap.size by omega)⟩|with_reducible exact ⟨Q08 k1_0 (show w.heap.size < x0.heap.size by omega),Q08 k1_1 (show w.heap.size < x0.heap.size by omega)⟩|with_reducible exact ⟨Q08 k1_0 (show w.heap.size < x0.heap.size+1 by omega),Q08 k1_1 (show w.heap.size < x0.heap.size+1 by omega)⟩|go_keep) (first|(go_at_call 102;have hc_:=Q1v key o2 c2 m wr.drew ((HRD.out.kept (Below.drew (Below.refl _ _)) (Kaq _)).le (by simp)) hml hk hmok;with_reducible refine hc_.mono ?_;clear hc_;rintro e x0 ⟨o3,c3,hs3,rfl,ow3,tb3,hb⟩;have hp0:Below wr.heap.size wr x0:=Below.trans (show Below wr.heap.size wr wr.drew from (Below.drew (Below.refl _ _))) (hb.mono (by simp));have sp0:=hp0.size;have ow3:=Q04 ow3 (show wr.heap.size≤_ by simp);have tb3:=Tab.mono tb3 (show wr.heap.size≤_ by simp);have k0_0:=bC hp0 z0_wrt hzW;have k0_1:=bC hp0 z2_wrt hzW;clear hb)|(go_at_call 102;have hc_:=Q1v key o2 c2 m (wr.alloc (.cells #[.int .i64 0,.slice none 0 0,.slice none 0 0] 29)).drew ((HRD.out.kept (Below.drew ((Below.refl _ _).alloc (Kaq _) _)) (Kaq _)).le (by simp)) hml hk hmok;with_reducible refine hc_.mono ?_;clear hc_;rintro e x0 ⟨o3,c3,hs3,rfl,ow3,tb3,hb⟩;have hp0:Below wr.heap.size wr x0:=Below.trans (show Below wr.heap.size wr (wr.alloc (.cells #[.int .i64 0,.slice none 0 0,.slice none 0 0] 29)).drew from (Below.drew ((Below.refl _ _).alloc (Kaq _) _))) (hb.mono (by simp));have sp0:=hp0.size;have ow3:=Q04 ow3 (show wr.heap.size≤_ by simp);have tb3:=Tab.mono tb3 (show wr.heap.size≤_ by simp);have k0_0:=bC hp0 z0_wrt hzW;have k0_1:=bC hp0 z2_wrt hzW;have hZ0:=Q4g hb;have hzl0:=(Array.getElem?_eq_some_iff.1 hZ0).1;clear hb)|(have hbv:Below x0.heap.size x0 (x0.alloc (.cells #[.slice o3 8 c3] 51)):=((Below.refl x0.heap.size x0).alloc (Kaq _) (.cells #[.slice o3 8 c3] 51));have own_:ownL Q0C 51 (x0.alloc (.cells #[.slice o3 8 c3] 51)) wr.heap.size (.slice (some ⟨x0.heap.size,0,none⟩) 1 1) [(o3,8,c3)]:=Q04 (Q44 x0 o3 8 c3 _) (by (try simp) <;> omega);have hbw:Below w.heap.size w (x0.alloc (.cells #[.slice o3 8 c3] 51)):=HBt2.out.trans ((hp0.mono HBt2.out.size).trans (hbv.mono (Kdq HBt2.out.size sp0)));refine Q0n Q5y rfl (.tmp 90) (.tmp 92) rfl wr.heap.size (.slice (some ⟨x0.heap.size,0,none⟩) 1 1) [(o3,8,c3)] rfl own_ oR cR w.heap.size hsR hsR.length rfl rfl hnR (HRH.out.kept (hp0.trans (hbv.mono sp0)) HBt2.out.size) (by simp;omega) (by simp;omega) ?_;intro v4 x1 ho4 hg4 hn4;have hr4:=Q2p own_ (Q03 ow3 hbv) (tb3.kept hbv) ho4 hg4;obtain ⟨g4,c4,e4⟩:=RingO.isSome hr4;subst e4;have hp1:Below wr.heap.size wr x1:=(hp0.trans (hbv.mono sp0)).grown hg4 (by (try simp) <;> omega) (fun k h=> (own_.lt k h).1);have sp1:=hp1.size;have k1_0:=bC hp1 z0_wrt hzW;have k1_1:=bC hp1 z2_wrt hzW;(try have hZ1:=Q3H hg4 ((Below.heap_alloc _ _ _ hzl0).trans hZ0) (Nat.ne_of_lt hzl0));(try have hzc1_0:=Q00 hZ1 0 _ rfl);(try have hzf1_0:=Q01 hZ1 0);(try have hzc1_1:=Q00 hZ1 1 _ rfl);(try have hzf1_1:=Q01 hZ1 1);(try have hzc1_2:=Q00 hZ1 2 _ rfl);(try have hzf1_2:=Q01 hZ1 2);clear ho4 hg4 hn4 own_ hbw hbv)|(have hbv:Below x0.heap.size x0 ((x0.alloc (.cells #[.int .i64 0,.slice none 0 0,.slice none 0 0] 29)).alloc (.cells #[.slice o3 8 c3] 51)):=(((Below.refl x0.heap.size x0).alloc (Kaq _) (.cells #[.int .i64 0,.slice none 0 0,.slice none 0 0] 29)).alloc (by simp) (.cells #[.slice o3 8 c3] 51));have own_:ownL Q0C 51 ((x0.alloc (.cells #[.int .i64 0,.slice none 0 0,.slice none 0 0] 29)).alloc (.cells #[.slice o3 8 c3] 51)) wr.heap.size (.slice (some ⟨x0.heap.size+1,0,none⟩) 1 1) [(o3,8,c3)]:=Q04 (Q8i x0 (.cells #[.int .i64 0,.slice none 0 0,.slice none 0 0] 29) o3 8 c3 _) (by (try simp) <;> omega);have hbw:Below w.heap.size w ((x0.alloc (.cells #[.int .i64 0,.slice none 0 0,.slice none 0 0] 29)).alloc (.cells #[.slice o3 8 c3] 51)):=HBt2.out.trans ((hp0.mono HBt2.out.size).trans (hbv.mono (Kdq HBt2.out.size sp0)));refine Q0n Q5y rfl (.tmp 90) (.tmp 92) rfl wr.heap.size (.slice (some ⟨x0.heap.size+1,0,none⟩) 1 1) [(o3,8,c3)] rfl own_ oR cR w.heap.size hsR hsR.length rfl rfl hnR (HRH.out.kept (hp0.trans (hbv.mono sp0)) HBt2.out.size) (by simp;omega) (by simp;omega) ?_;intro v4 x1 ho4 hg4 hn4;have hr4:=Q2p own_ (Q03 ow3 hbv) (tb3.kept hbv) ho4 hg4;obtain ⟨g4,c4,e4⟩:=RingO.isSome hr4;subst e4;have hp1:Below wr.heap.size wr x1:=(hp0.trans (hbv.mono sp0)).grown hg4 (by (try simp) <;> omega) (fun k h=> (own_.lt k h).1);have sp1:=hp1.size;have k1_0:=bC hp1 z0_wrt hzW;have k1_1:=bC hp1 z2_wrt hzW;have hZ2:=Q3H hg4 (Q3E x0 #[.int .i64 0,.slice none 0 0,.slice none 0 0] 29 (.cells #[.slice o3 8 c3] 51)) (Nat.ne_of_lt (Nat.lt_succ_self _));(try have hzc2_0:=Q00 hZ2 0 _ rfl);(try have hzf2_0:=Q01 hZ2 0);(try have hzc2_1:=Q00 hZ2 1 _ rfl);(try have hzf2_1:=Q01 hZ2 1);(try have hzc2_2:=Q00 hZ2 2 _ rfl);(try have hzf2_2:=Q01 hZ2 2);clear ho4 hg4 hn4 own_ hbw hbv)|(have hbv:Below x0.heap.size x0 ((x0.alloc (.cells #[.slice o3 8 c3] 51)).alloc (.cells #[.int .i64 0,.slice none 0 0,.slice none 0 0] 29)):=(((Below.refl x0.heap.size x0).alloc (Kaq _) (.cells #[.slice o3 8 c3] 51)).alloc (by simp) (.cells #[.int .i64 0,.slice none 0 0,.slice none 0 0] 29));have own_:ownL Q0C 51 ((x0.alloc (.cells #[.slice o3 8 c3] 51)).alloc (.cells #[.int .i64 0,.slice none 0 0,.slice none 0 0] 29)) wr.heap.size (.slice (some ⟨x0.heap.size,0,none⟩) 1 1) [(o3,8,c3)]:=Q04 (World.ownsRow.alloc (Q44 x0 o3 8 c3 _) (.cells #[.int .i64 0,.slice none 0 0,.slice none 0 0] 29)) (by (try simp) <;> omega);have hbw:Below w.heap.size w ((x0.alloc (.cells #[.slice o3 8 c3] 51)).alloc (.cells #[.int .i64 0,.slice none 0 0,.slice none 0 0] 29)):=HBt2.out.trans ((hp0.mono HBt2.out.size).trans (hbv.mono (Kdq HBt2.out.size sp0)));refine Q0n Q5y rfl (.tmp 90) (.tmp 92) rfl wr.heap.size (.slice (some ⟨x0.heap.size,0,none⟩) 1 1) [(o3,8,c3)] rfl own_ oR cR w.heap.size hsR hsR.length rfl rfl hnR (HRH.out.kept (hp0.trans (hbv.mono sp0)) HBt2.out.size) (by simp;omega) (by simp;omega) ?_;intro v4 x1 ho4 hg4 hn4;have hr4:=Q2p own_ (Q03 ow3 hbv) (tb3.kept hbv) ho4 hg4;obtain ⟨g4,c4,e4⟩:=RingO.isSome hr4;subst e4;have hp1:Below wr.heap.size wr x1:=(hp0.trans (hbv.mono sp0)).grown hg4 (by (try simp) <;> omega) (fun k h=> (own_.lt k h).1);have sp1:=hp1.size;have k1_0:=bC hp1 z0_wrt hzW;have k1_1:=bC hp1 z2_wrt hzW;have hZ3:=Q3H hg4 (Q1N x0 #[.int .i64 0,.slice none 0 0,.slice none 0 0] 29 (.cells #[.slice o3 8 c3] 51)) (Nat.ne_of_gt (Nat.lt_succ_self _));(try have hzc3_0:=Q00 hZ3 0 _ rfl);(try have hzf3_0:=Q01 hZ3 0);(try have hzc3_1:=Q00 hZ3 1 _ rfl);(try have hzf3_1:=Q01 hZ3 1);(try have hzc3_2:=Q00 hZ3 2 _ rfl);(try have hzf3_2:=Q01 hZ3 2);clear ho4 hg4 hn4 own_ hbw hbv))
     all_goals (go_wp2_with fail;go_meet)
     all_goals first
      |with_reducible exact Qfq hZ1 hp1 (by omega) hr4
      |with_reducible exact Qfq hZ2 hp1 (by omega) hr4
      |with_reducible exact Qfq hZ3 hp1 (by omega) hr4
      |with_reducible exact QgR hp1 hr4
    case rest=>
    obtain ⟨B,v',rfl,Hbx,Hbl,hB1,hB2,Hr⟩:=hcut;obtain ⟨g4,c4,e4⟩:=RingO.isSome Hr.out;subst e4;have hcap4:=RingO.cap Hr.out;have hqz:=ZQ
    have hqz2:w.heap.size+1+1 < wr.heap.size:=by omega
    have hwc:=Hbl.out.size;have qc0:=bC Hbl.out q0_wrt hqz2;have fqc0:=bF Hbl.out (bF HBt.out FQ0 ZQ) hqz2;have bc0:=Q00 Hbx.out 0 _ rfl;have fbc0:=Q01 Hbx.out 0;have qc1:=bC Hbl.out q1_wrt hqz2;have fqc1:=bF Hbl.out (bF HBt.out FQ1 ZQ) hqz2;have bc1:=Q00 Hbx.out 1 _ rfl;have fbc1:=Q01 Hbx.out 1;have qc2:=bC Hbl.out q2_wrt hqz2;have fqc2:=bF Hbl.out (bF HBt.out FQ2 ZQ) hqz2;have bc2:=Q00 Hbx.out 2 _ rfl;have fbc2:=Q01 Hbx.out 2;clear z0_wrt z2_wrt q0_wrt q1_wrt q2_wrt;have HOw:=Q02 (Q03 HOt.out Hbl.out);have HBw:Hid (Below w.heap.size w wc):=HBt2.out.trans (Hbl.out.mono HBt2.out.size)
    have hne1:B≠w.heap.size+1+1:=by omega
    have hne2:w.heap.size+1+1≠B:=by omega
    by_cases h4:hsR.length=3
    ·skip
     have h4':(hsR.length:Int)=3:=by omega
     have h41:3≤c4:=by omega
     obtain ⟨W5,hW5⟩:∃W,wc.setCell ⟨B,2,none⟩ (.slice (some ⟨g4,0,none⟩) 3 c4)=W:=⟨_,rfl⟩
     have hW5b:W5.heap[B]? =some (.cells #[.int .i64 key,.slice o2 m.length c2,.slice (some ⟨g4,0,none⟩) 3 c4] 29 (0,0)):=by rw [←hW5];exact Q06 Hbx.out 2 _
     have b50:=Q00 hW5b 0 _ rfl
     have q50:W5.cell? ⟨w.heap.size+1+1,0,none⟩=some (.int .i64 0):=by rw [←hW5];exact (Q1e hne2).trans qc0
     have fq50:W5.frozen? ⟨w.heap.size+1+1,0,none⟩=false:=by rw [←hW5];exact (Q0P hne2).trans fqc0
     have b51:=Q00 hW5b 1 _ rfl
     have q51:W5.cell? ⟨w.heap.size+1+1,1,none⟩=some (.slice none 0 0):=by rw [←hW5];exact (Q1e hne2).trans qc1
     have fq51:W5.frozen? ⟨w.heap.size+1+1,1,none⟩=false:=by rw [←hW5];exact (Q0P hne2).trans fqc1
     have b52:=Q00 hW5b 2 _ rfl
     have q52:W5.cell? ⟨w.heap.size+1+1,2,none⟩=some (.slice none 0 0):=by rw [←hW5];exact (Q1e hne2).trans qc2
     have fq52:W5.frozen? ⟨w.heap.size+1+1,2,none⟩=false:=by rw [←hW5];exact (Q0P hne2).trans fqc2
     have HO5:Hid (Q1i W5 W0.heap.size (.slice o2 m.length c2) m):=by rw [←hW5];exact Q0o HOw.out Hbx.out Q7p 2 _
     have HR5:Hid (RingO W5 wr.heap.size (.slice (some ⟨g4,0,none⟩) (hsR.length+1) c4) (fun b=> Q0Z key b m) hsR):=by rw [←hW5];exact Hr.out.put Hbx.out 2 _
     have HB5:Hid (Below w.heap.size w W5):=by rw [←hW5];exact HBw.out.setCell (p:=⟨B,2,none⟩) (show w.heap.size≤B by have:=HBt2.out.size;omega) _
     obtain ⟨o3,c3,hs3,rg1,rg2,rg3⟩:=((HR5.out.low hqz2 0 (.int .i64 key)).low hqz2 1 (.slice o2 m.length c2)).low hqz2 2 (.slice (some ⟨g4,0,none⟩) 3 c4);have HG1:=Q02 rg1;have HG2:=Q02 rg2;have HG3:=Q02 rg3;clear rg1 rg2 rg3
     go_wp2
     refine bodyPost_ret (v:=.tuple #[plv key (.slice o2 m.length c2) (.slice (some ⟨g4,0,none⟩) 3 c4),.bool true]) (by simp [results,Tryz.results95,go_sem,q50,q51,q52]) rfl ?_
     unfold Q5V
     refine ⟨o2,c2,some ⟨g4,0,none⟩,3,c4,o3,c3,hs3,rfl, ?_, ?_, ?_,Q04 HG2.out (by omega),Tab.mono HG3.out (by omega), ?_⟩
     ·simp;omega
     ·exact Q04 (Q0k (Q0k (Q0k HO5.out ZQ 0 _) ZQ 1 _) ZQ 2 _) hW0s
     ·exact Q04 (Q6H HG1.out (by simp;omega)) (by omega)
     ·exact ((HB5.out.setCell (p:=⟨w.heap.size+1+1,0,none⟩) (by (try simp) <;> omega) _).setCell (p:=⟨w.heap.size+1+1,1,none⟩) (by (try simp) <;> omega) _).setCell (p:=⟨w.heap.size+1+1,2,none⟩) (by (try simp) <;> omega) _
    ·skip
     have h4':¬((hsR.length:Int)+1 > 3):=by omega
     have h4d:decide (3 < (hsR.length:Int)+1)=false:=decide_eq_false (by omega)
     obtain ⟨o3,c3,hs3,rg1,rg2,rg3⟩:=((Hr.out.low hqz2 0 (.int .i64 key)).low hqz2 1 (.slice o2 m.length c2)).low hqz2 2 (.slice (some ⟨g4,0,none⟩) (hsR.length+1) c4);have HG1:=Q02 rg1;have HG2:=Q02 rg2;have HG3:=Q02 rg3;clear rg1 rg2 rg3
     go_wp2
     refine bodyPost_ret (v:=.tuple #[plv key (.slice o2 m.length c2) (.slice (some ⟨g4,0,none⟩) (hsR.length+1) c4),.bool true]) (by simp [results,Tryz.results95,go_sem,qc0,qc1,qc2,hne1,hne2]) rfl ?_
     unfold Q5V
     refine ⟨o2,c2,some ⟨g4,0,none⟩,(hsR.length+1),c4,o3,c3,hs3,rfl, ?_, ?_, ?_,Q04 HG2.out (by omega),Tab.mono HG3.out (by omega), ?_⟩
     ·simp;omega
     ·exact Q04 (Q0k (Q0k (Q0k HOw.out ZQ 0 _) ZQ 1 _) ZQ 2 _) hW0s
     ·have e:((o3,8,c3)::hsR).take 3=(o3,8,c3)::hsR:=List.take_of_length_le (by simp;omega)
      rw [e]
      exact Q04 HG1.out (by omega)
     ·exact ((HBw.out.setCell (p:=⟨w.heap.size+1+1,0,none⟩) (by (try simp) <;> omega) _).setCell (p:=⟨w.heap.size+1+1,1,none⟩) (by (try simp) <;> omega) _).setCell (p:=⟨w.heap.size+1+1,2,none⟩) (by (try simp) <;> omega) _
   |false=>
    have hem:s1++[(i,g,false)]=m:=HEND.out
    go_wp2_with (at_builtin;refine Q07 Q3v rfl (.tmp 75) (.tmp 81) rfl W0.heap.size _ _ rfl (World.ownsRow.alloc HO.out (.cells #[.int .i64 i,.int .i64 g,.bool false] 119)) (some ⟨wr.heap.size,0,none⟩) 1 (wr.alloc (.cells #[.int .i64 i,.int .i64 g,.bool false] 119)).heap.size [(i,g,false)] 1 rfl rfl (fun h=> by cases h) Q42 (by simp;omega) (by have:=HBR.out.size;simp;omega) ?_)
    intro vt wt ho5 hg5 _
    (try rw [hem] at ho5)
    have HOt:=Q02 ho5
    have HBt:=Q02 ((HBR.out.alloc HBR.out.size (.cells #[.int .i64 i,.int .i64 g,.bool false] 119)).grown hg5 (by have:=HBR.out.size;simp;omega) (fun k e=> (HO.out.lt k e).1))
    clear ho5 hg5 hem HEND HO z1_wr u1_wr u2_wr HBB HBR;obtain ⟨o2,c2,e2,rd2⟩:=ownL.open (L:=Q12) HOt.out;have hcap2:=Q02 (Q8F HOt.out e2);subst e2;have HRD:=Q02 rd2;clear rd2;have HBt2:Hid (Below w.heap.size w wt):=HB.out.trans (HBt.out.mono hW0s);have hszt:=HBt.out.size;have HRH:=Q02 (HG.out.kept HBt2.out (Kaq _));clear HG;have z0_wtt:=bC HBt.out Z0 ZZ;have z2_wtt:=bC HBt.out Z2 ZZ;have q0_wtt:=bC HBt.out Q0 ZQ;have q1_wtt:=bC HBt.out Q1 ZQ;have q2_wtt:=bC HBt.out Q2 ZQ
    have hml:m.length≤1000:=by omega
    go_upto_region 21 with fail
    go_cut [11] from 83 to 94 (fun s11 wx=> ∃B v',s11=.pointer (some ⟨B,0,none⟩)∧Hid (wx.heap[B]? =some (.cells #[.int .i64 key,.slice o2 m.length c2,v'] 29 (0,0)))∧Hid (Below wt.heap.size wt wx)∧wt.heap.size≤B∧B < wx.heap.size∧Hid (RingO wx wt.heap.size v' (fun b=> Q0Z key b m) hsR))
    case first=>
     have hzW:w.heap.size < wt.heap.size:=by have:=ZZ;omega
     go_region_held3 (fun w'=> w'.cell? ⟨w.heap.size,0,none⟩=some (.int .i64 key)∧w'.cell? ⟨w.heap.size,2,none⟩=some (.slice oR hsR.length cR)) (first|with_reducible exact ⟨k1_0,k1_1⟩|with_reducible exact ⟨k0_0,k0_1⟩|with_reducible exact ⟨z0_wtt,z2_wtt⟩|with_reducible exact ⟨Q08 k1_0 (show w.heap.size < wt.heap.size by omega),Q08 k1_1 (show w.heap.size < wt.heap.size by omega)⟩|with_reducible exact ⟨Q08 k1_0 (show w.heap.size < x0.heap.size by omega),Q08 k1_1 (show w.heap.size < x0.heap.size by omega)⟩|with_reducible exact ⟨Q08 k1_0 (show w.heap.size < x0.heap.size+1 by omega),Q08 k1_1 (show w.heap.size < x0.heap.size+1 by omega)⟩|go_keep) (first|(go_at_call 102;have hc_:=Q1v key o2 c2 m wt.drew ((HRD.out.kept (Below.drew (Below.refl _ _)) (Kaq _)).le (by simp)) hml hk hmok;with_reducible refine hc_.mono ?_;clear hc_;rintro e x0 ⟨o3,c3,hs3,rfl,ow3,tb3,hb⟩;have hp0:Below wt.heap.size wt x0:=Below.trans (show Below wt.heap.size wt wt.drew from (Below.drew (Below.refl _ _))) (hb.mono (by simp));have sp0:=hp0.size;have ow3:=Q04 ow3 (show wt.heap.size≤_ by simp);have tb3:=Tab.mono tb3 (show wt.heap.size≤_ by simp);have k0_0:=bC hp0 z0_wtt hzW;have k0_1:=bC hp0 z2_wtt hzW;clear hb)|(go_at_call 102;have hc_:=Q1v key o2 c2 m (wt.alloc (.cells #[.int .i64 0,.slice none 0 0,.slice none 0 0] 29)).drew ((HRD.out.kept (Below.drew ((Below.refl _ _).alloc (Kaq _) _)) (Kaq _)).le (by simp)) hml hk hmok;with_reducible refine hc_.mono ?_;clear hc_;rintro e x0 ⟨o3,c3,hs3,rfl,ow3,tb3,hb⟩;have hp0:Below wt.heap.size wt x0:=Below.trans (show Below wt.heap.size wt (wt.alloc (.cells #[.int .i64 0,.slice none 0 0,.slice none 0 0] 29)).drew from (Below.drew ((Below.refl _ _).alloc (Kaq _) _))) (hb.mono (by simp));have sp0:=hp0.size;have ow3:=Q04 ow3 (show wt.heap.size≤_ by simp);have tb3:=Tab.mono tb3 (show wt.heap.size≤_ by simp);have k0_0:=bC hp0 z0_wtt hzW;have k0_1:=bC hp0 z2_wtt hzW;have hZ0:=Q4g hb;have hzl0:=(Array.getElem?_eq_some_iff.1 hZ0).1;clear hb)|(have hbv:Below x0.heap.size x0 (x0.alloc (.cells #[.slice o3 8 c3] 51)):=((Below.refl x0.heap.size x0).alloc (Kaq _) (.cells #[.slice o3 8 c3] 51));have own_:ownL Q0C 51 (x0.alloc (.cells #[.slice o3 8 c3] 51)) wt.heap.size (.slice (some ⟨x0.heap.size,0,none⟩) 1 1) [(o3,8,c3)]:=Q04 (Q44 x0 o3 8 c3 _) (by (try simp) <;> omega);have hbw:Below w.heap.size w (x0.alloc (.cells #[.slice o3 8 c3] 51)):=HBt2.out.trans ((hp0.mono HBt2.out.size).trans (hbv.mono (Kdq HBt2.out.size sp0)));refine Q0n Q5y rfl (.tmp 90) (.tmp 92) rfl wt.heap.size (.slice (some ⟨x0.heap.size,0,none⟩) 1 1) [(o3,8,c3)] rfl own_ oR cR w.heap.size hsR hsR.length rfl rfl hnR (HRH.out.kept (hp0.trans (hbv.mono sp0)) HBt2.out.size) (by simp;omega) (by simp;omega) ?_;intro v4 x1 ho4 hg4 hn4;have hr4:=Q2p own_ (Q03 ow3 hbv) (tb3.kept hbv) ho4 hg4;obtain ⟨g4,c4,e4⟩:=RingO.isSome hr4;subst e4;have hp1:Below wt.heap.size wt x1:=(hp0.trans (hbv.mono sp0)).grown hg4 (by (try simp) <;> omega) (fun k h=> (own_.lt k h).1);have sp1:=hp1.size;have k1_0:=bC hp1 z0_wtt hzW;have k1_1:=bC hp1 z2_wtt hzW;(try have hZ1:=Q3H hg4 ((Below.heap_alloc _ _ _ hzl0).trans hZ0) (Nat.ne_of_lt hzl0));(try have hzc1_0:=Q00 hZ1 0 _ rfl);(try have hzf1_0:=Q01 hZ1 0);(try have hzc1_1:=Q00 hZ1 1 _ rfl);(try have hzf1_1:=Q01 hZ1 1);(try have hzc1_2:=Q00 hZ1 2 _ rfl);(try have hzf1_2:=Q01 hZ1 2);clear ho4 hg4 hn4 own_ hbw hbv)|(have hbv:Below x0.heap.size x0 ((x0.alloc (.cells #[.int .i64 0,.slice none 0 0,.slice none 0 0] 29)).alloc (.cells #[.slice o3 8 c3] 51)):=(((Below.refl x0.heap.size x0).alloc (Kaq _) (.cells #[.int .i64 0,.slice none 0 0,.slice none 0 0] 29)).alloc (by simp) (.cells #[.slice o3 8 c3] 51));have own_:ownL Q0C 51 ((x0.alloc (.cells #[.int .i64 0,.slice none 0 0,.slice none 0 0] 29)).alloc (.cells #[.slice o3 8 c3] 51)) wt.heap.size (.slice (some ⟨x0.heap.size+1,0,none⟩) 1 1) [(o3,8,c3)]:=Q04 (Q8i x0 (.cells #[.int .i64 0,.slice none 0 0,.slice none 0 0] 29) o3 8 c3 _) (by (try simp) <;> omega);have hbw:Below w.heap.size w ((x0.alloc (.cells #[.int .i64 0,.slice none 0 0,.slice none 0 0] 29)).alloc (.cells #[.slice o3 8 c3] 51)):=HBt2.out.trans ((hp0.mono HBt2.out.size).trans (hbv.mono (Kdq HBt2.out.size sp0)));refine Q0n Q5y rfl (.tmp 90) (.tmp 92) rfl wt.heap.size (.slice (some ⟨x0.heap.size+1,0,none⟩) 1 1) [(o3,8,c3)] rfl own_ oR cR w.heap.size hsR hsR.length rfl rfl hnR (HRH.out.kept (hp0.trans (hbv.mono sp0)) HBt2.out.size) (by simp;omega) (by simp;omega) ?_;intro v4 x1 ho4 hg4 hn4;have hr4:=Q2p own_ (Q03 ow3 hbv) (tb3.kept hbv) ho4 hg4;obtain ⟨g4,c4,e4⟩:=RingO.isSome hr4;subst e4;have hp1:Below wt.heap.size wt x1:=(hp0.trans (hbv.mono sp0)).grown hg4 (by (try simp) <;> omega) (fun k h=> (own_.lt k h).1);have sp1:=hp1.size;have k1_0:=bC hp1 z0_wtt hzW;have k1_1:=bC hp1 z2_wtt hzW;have hZ2:=Q3H hg4 (Q3E x0 #[.int .i64 0,.slice none 0 0,.slice none 0 0] 29 (.cells #[.slice o3 8 c3] 51)) (Nat.ne_of_lt (Nat.lt_succ_self _));(try have hzc2_0:=Q00 hZ2 0 _ rfl);(try have hzf2_0:=Q01 hZ2 0);(try have hzc2_1:=Q00 hZ2 1 _ rfl);(try have hzf2_1:=Q01 hZ2 1);(try have hzc2_2:=Q00 hZ2 2 _ rfl);(try have hzf2_2:=Q01 hZ2 2);clear ho4 hg4 hn4 own_ hbw hbv)|(have hbv:Below x0.heap.size x0 ((x0.alloc (.cells #[.slice o3 8 c3] 51)).alloc (.cells #[.int .i64 0,.slice none 0 0,.slice none 0 0] 29)):=(((Below.refl x0.heap.size x0).alloc (Kaq _) (.cells #[.slice o3 8 c3] 51)).alloc (by simp) (.cells #[.int .i64 0,.slice none 0 0,.slice none 0 0] 29));have own_:ownL Q0C 51 ((x0.alloc (.cells #[.slice o3 8 c3] 51)).alloc (.cells #[.int .i64 0,.slice none 0 0,.slice none 0 0] 29)) wt.heap.size (.slice (some ⟨x0.heap.size,0,none⟩) 1 1) [(o3,8,c3)]:=Q04 (World.ownsRow.alloc (Q44 x0 o3 8 c3 _) (.cells #[.int .i64 0,.slice none 0 0,.slice none 0 0] 29)) (by (try simp) <;> omega);have hbw:Below w.heap.size w ((x0.alloc (.cells #[.slice o3 8 c3] 51)).alloc (.cells #[.int .i64 0,.slice none 0 0,.slice none 0 0] 29)):=HBt2.out.trans ((hp0.mono HBt2.out.size).trans (hbv.mono (Kdq HBt2.out.size sp0)));refine Q0n Q5y rfl (.tmp 90) (.tmp 92) rfl wt.heap.size (.slice (some ⟨x0.heap.size,0,none⟩) 1 1) [(o3,8,c3)] rfl own_ oR cR w.heap.size hsR hsR.length rfl rfl hnR (HRH.out.kept (hp0.trans (hbv.mono sp0)) HBt2.out.size) (by simp;omega) (by simp;omega) ?_;intro v4 x1 ho4 hg4 hn4;have hr4:=Q2p own_ (Q03 ow3 hbv) (tb3.kept hbv) ho4 hg4;obtain ⟨g4,c4,e4⟩:=RingO.isSome hr4;subst e4;have hp1:Below wt.heap.size wt x1:=(hp0.trans (hbv.mono sp0)).grown hg4 (by (try simp) <;> omega) (fun k h=> (own_.lt k h).1);have sp1:=hp1.size;have k1_0:=bC hp1 z0_wtt hzW;have k1_1:=bC hp1 z2_wtt hzW;have hZ3:=Q3H hg4 (Q1N x0 #[.int .i64 0,.slice none 0 0,.slice none 0 0] 29 (.cells #[.slice o3 8 c3] 51)) (Nat.ne_of_gt (Nat.lt_succ_self _));(try have hzc3_0:=Q00 hZ3 0 _ rfl);(try have hzf3_0:=Q01 hZ3 0);(try have hzc3_1:=Q00 hZ3 1 _ rfl);(try have hzf3_1:=Q01 hZ3 1);(try have hzc3_2:=Q00 hZ3 2 _ rfl);(try have hzf3_2:=Q01 hZ3 2);clear ho4 hg4 hn4 own_ hbw hbv))
     all_goals (go_wp2_with fail;go_meet)
     all_goals first
      |with_reducible exact Qfq hZ1 hp1 (by omega) hr4
      |with_reducible exact Qfq hZ2 hp1 (by omega) hr4
      |with_reducible exact Qfq hZ3 hp1 (by omega) hr4
      |with_reducible exact QgR hp1 hr4
    case rest=>
    obtain ⟨B,v',rfl,Hbx,Hbl,hB1,hB2,Hr⟩:=hcut;obtain ⟨g4,c4,e4⟩:=RingO.isSome Hr.out;subst e4;have hcap4:=RingO.cap Hr.out;have hqz:=ZQ
    have hqz2:w.heap.size+1+1 < wt.heap.size:=by omega
    have hwc:=Hbl.out.size;have qc0:=bC Hbl.out q0_wtt hqz2;have fqc0:=bF Hbl.out (bF HBt.out FQ0 ZQ) hqz2;have bc0:=Q00 Hbx.out 0 _ rfl;have fbc0:=Q01 Hbx.out 0;have qc1:=bC Hbl.out q1_wtt hqz2;have fqc1:=bF Hbl.out (bF HBt.out FQ1 ZQ) hqz2;have bc1:=Q00 Hbx.out 1 _ rfl;have fbc1:=Q01 Hbx.out 1;have qc2:=bC Hbl.out q2_wtt hqz2;have fqc2:=bF Hbl.out (bF HBt.out FQ2 ZQ) hqz2;have bc2:=Q00 Hbx.out 2 _ rfl;have fbc2:=Q01 Hbx.out 2;clear z0_wtt z2_wtt q0_wtt q1_wtt q2_wtt;have HOw:=Q02 (Q03 HOt.out Hbl.out);have HBw:Hid (Below w.heap.size w wc):=HBt2.out.trans (Hbl.out.mono HBt2.out.size)
    have hne1:B≠w.heap.size+1+1:=by omega
    have hne2:w.heap.size+1+1≠B:=by omega
    by_cases h4:hsR.length=3
    ·skip
     have h4':(hsR.length:Int)=3:=by omega
     have h41:3≤c4:=by omega
     obtain ⟨W5,hW5⟩:∃W,wc.setCell ⟨B,2,none⟩ (.slice (some ⟨g4,0,none⟩) 3 c4)=W:=⟨_,rfl⟩
     have hW5b:W5.heap[B]? =some (.cells #[.int .i64 key,.slice o2 m.length c2,.slice (some ⟨g4,0,none⟩) 3 c4] 29 (0,0)):=by rw [←hW5];exact Q06 Hbx.out 2 _
     have b50:=Q00 hW5b 0 _ rfl
     have q50:W5.cell? ⟨w.heap.size+1+1,0,none⟩=some (.int .i64 0):=by rw [←hW5];exact (Q1e hne2).trans qc0
     have fq50:W5.frozen? ⟨w.heap.size+1+1,0,none⟩=false:=by rw [←hW5];exact (Q0P hne2).trans fqc0
     have b51:=Q00 hW5b 1 _ rfl
     have q51:W5.cell? ⟨w.heap.size+1+1,1,none⟩=some (.slice none 0 0):=by rw [←hW5];exact (Q1e hne2).trans qc1
     have fq51:W5.frozen? ⟨w.heap.size+1+1,1,none⟩=false:=by rw [←hW5];exact (Q0P hne2).trans fqc1
     have b52:=Q00 hW5b 2 _ rfl
     have q52:W5.cell? ⟨w.heap.size+1+1,2,none⟩=some (.slice none 0 0):=by rw [←hW5];exact (Q1e hne2).trans qc2
     have fq52:W5.frozen? ⟨w.heap.size+1+1,2,none⟩=false:=by rw [←hW5];exact (Q0P hne2).trans fqc2
     have HO5:Hid (Q1i W5 W0.heap.size (.slice o2 m.length c2) m):=by rw [←hW5];exact Q0o HOw.out Hbx.out Q7p 2 _
     have HR5:Hid (RingO W5 wt.heap.size (.slice (some ⟨g4,0,none⟩) (hsR.length+1) c4) (fun b=> Q0Z key b m) hsR):=by rw [←hW5];exact Hr.out.put Hbx.out 2 _
     have HB5:Hid (Below w.heap.size w W5):=by rw [←hW5];exact HBw.out.setCell (p:=⟨B,2,none⟩) (show w.heap.size≤B by have:=HBt2.out.size;omega) _
     obtain ⟨o3,c3,hs3,rg1,rg2,rg3⟩:=((HR5.out.low hqz2 0 (.int .i64 key)).low hqz2 1 (.slice o2 m.length c2)).low hqz2 2 (.slice (some ⟨g4,0,none⟩) 3 c4);have HG1:=Q02 rg1;have HG2:=Q02 rg2;have HG3:=Q02 rg3;clear rg1 rg2 rg3
     go_wp2
     refine bodyPost_ret (v:=.tuple #[plv key (.slice o2 m.length c2) (.slice (some ⟨g4,0,none⟩) 3 c4),.bool true]) (by simp [results,Tryz.results95,go_sem,q50,q51,q52]) rfl ?_
     unfold Q5V
     refine ⟨o2,c2,some ⟨g4,0,none⟩,3,c4,o3,c3,hs3,rfl, ?_, ?_, ?_,Q04 HG2.out (by omega),Tab.mono HG3.out (by omega), ?_⟩
     ·simp;omega
     ·exact Q04 (Q0k (Q0k (Q0k HO5.out ZQ 0 _) ZQ 1 _) ZQ 2 _) hW0s
     ·exact Q04 (Q6H HG1.out (by simp;omega)) (by omega)
     ·exact ((HB5.out.setCell (p:=⟨w.heap.size+1+1,0,none⟩) (by (try simp) <;> omega) _).setCell (p:=⟨w.heap.size+1+1,1,none⟩) (by (try simp) <;> omega) _).setCell (p:=⟨w.heap.size+1+1,2,none⟩) (by (try simp) <;> omega) _
    ·skip
     have h4':¬((hsR.length:Int)+1 > 3):=by omega
     have h4d:decide (3 < (hsR.length:Int)+1)=false:=decide_eq_false (by omega)
     obtain ⟨o3,c3,hs3,rg1,rg2,rg3⟩:=((Hr.out.low hqz2 0 (.int .i64 key)).low hqz2 1 (.slice o2 m.length c2)).low hqz2 2 (.slice (some ⟨g4,0,none⟩) (hsR.length+1) c4);have HG1:=Q02 rg1;have HG2:=Q02 rg2;have HG3:=Q02 rg3;clear rg1 rg2 rg3
     go_wp2
     refine bodyPost_ret (v:=.tuple #[plv key (.slice o2 m.length c2) (.slice (some ⟨g4,0,none⟩) (hsR.length+1) c4),.bool true]) (by simp [results,Tryz.results95,go_sem,qc0,qc1,qc2,hne1,hne2]) rfl ?_
     unfold Q5V
     refine ⟨o2,c2,some ⟨g4,0,none⟩,(hsR.length+1),c4,o3,c3,hs3,rfl, ?_, ?_, ?_,Q04 HG2.out (by omega),Tab.mono HG3.out (by omega), ?_⟩
     ·simp;omega
     ·exact Q04 (Q0k (Q0k (Q0k HOw.out ZQ 0 _) ZQ 1 _) ZQ 2 _) hW0s
     ·have e:((o3,8,c3)::hsR).take 3=(o3,8,c3)::hsR:=List.take_of_length_le (by simp;omega)
      rw [e]
      exact Q04 HG1.out (by omega)
     ·exact ((HBw.out.setCell (p:=⟨w.heap.size+1+1,0,none⟩) (by (try simp) <;> omega) _).setCell (p:=⟨w.heap.size+1+1,1,none⟩) (by (try simp) <;> omega) _).setCell (p:=⟨w.heap.size+1+1,2,none⟩) (by (try simp) <;> omega) _
theorem QcJ (key:Int) (o:Option Addr) (cap:Nat) (l:List Bk) (oR:Option Addr) (cR:Nat) (hsR:List Hd) (k i g:Int) (pl:Nat) (m:List Bk) (w:World) (hk:Q1C key=true) (hl:Q0a l=true) (hc:Q0E k i g=true) (hm:doL l k i g=some m) (hlen:l.length≤100) (hR:RdK w.heap.size w o l) (hG:RdL Q0C w.heap.size w oR hsR) (hnR:oR=none→cR=0) (hR3:hsR.length≤3) (hk1:k≠0) (hk0:(k==0)=false) (hpl:pl=Q0d l i):
  Calls Tryz.prog 95 #[plv key (.slice o l.length cap) (.slice oR hsR.length cR),cmd k i g] w fun e w'=> Q5V key m hsR w e w':=by
 obtain ⟨W0,hW0⟩:∃W,(((w.alloc (.cells #[.int .i64 key,.slice o l.length cap,.slice oR hsR.length cR] 29)).alloc (.cells #[.int .i64 k,.int .i64 i,.int .i64 g] 77)).alloc (.cells #[.int .i64 0,.slice none 0 0,.slice none 0 0] 29))=W:=⟨_,rfl⟩
 have hb_W0:Below w.heap.size w W0:=by rw [←hW0];exact ((((Below.refl _ _).alloc (Kaq _) _).alloc (by simp <;> omega) _).alloc (by simp <;> omega) _)
 have HB:=Q02 hb_W0;clear hb_W0
 have zz:w.heap.size < W0.heap.size:=by rw [←hW0];simp <;> omega
 obtain ⟨z0,z1,z2⟩:=alc3v0v3 hW0
 have zu:w.heap.size+1 < W0.heap.size:=by rw [←hW0];simp <;> omega
 obtain ⟨u0,u1,u2⟩:=alc3v1v3 hW0
 have zr:w.heap.size+1+1 < W0.heap.size:=by rw [←hW0];simp
 obtain ⟨r0,r1,r2⟩:=alc3v2v3 hW0;obtain ⟨fr0,fr1,fr2⟩:=alf3v2v3 hW0;have hzr0:=zr;have HR:=Q02 hR;have HG:=Q02 hG;have hW0s:=HB.out.size
 have HF:=Q02 (Q5R o cap l i W0 ((hR.kept HB.out (Kaq _)).le HB.out.size) (by omega) hl)
 have HEND:=Q02 (Qda hl hc hm);have hmok:=Q80 hl hc hm;have hmlen:=Q85 hm
 have hpl':Q0x l i=true:=by rcases Q56 hm with ⟨_,h,_⟩|⟨h,_⟩|⟨h,_⟩|⟨h,_⟩ <;> first|exact h|(exact absurd h hk1)
 rw [Qb0 hpl',←hpl] at HF HEND
 have hge:(0:Int)≤(pl:Int):=by omega
 have HPLX:=Q02 hpl;clear hpl;clear hR hG hl hc
 have HPUT:=Q02 (fun t=> Q8b (l:=l) (k:=k) (i:=i) (g:=g) (fi:=(pl:Int)) t)
 have Z0:=z0;have Z1:=z1;have Z2:=z2;have ZZ:=zz;have U0:=u0;have U1:=u1;have U2:=u2;have ZU:=zu;have Q0:=r0;have Q1:=r1;have Q2:=r2;have ZQ:=zr;have FQ0:=fr0;have FQ1:=fr1;have FQ2:=fr2
 go_enter Tryz.func95,Tryz.ntmps95
 go_wp2_with fail
 refine HF.out.mono ?_
 rintro e w9 ⟨rfl,rfl⟩
 go_wp2
 go_loopw [7,8,9] (fun lv pv tv wr=> ∃t:Nat,t≤l.length∧tv=.int .i64 (t:Int)∧pv=.bool (Q4N l k i g ((pl:Int)) t).2∧Hid (Q1i wr W0.heap.size lv (Q4N l k i g ((pl:Int)) t).1)∧Hid (Below W0.heap.size W0 wr))
  (fun _ _ tv _=> l.length - (intOf tv).toNat)
 case atStart=> exact ⟨0,Kcq _,rfl,by simp [Q4N,hk0,hk1],World.ownsRow_nil _ _ _ _,Below.refl _ _⟩
 case round=>
  obtain ⟨t,htl,rfl,rfl,HO,HBR⟩:=hrel;clear HF z0 z1 z2 u0 u1 u2 r0 r1 r2 fr0 fr1 fr2 zz zu zr hW0;have HBB:Hid (Below w.heap.size w wr):=HB.out.trans (HBR.out.mono hW0s)
  by_cases hlt:t < l.length
  ·skip
   have hlt':(t:Int) < (l.length:Int):=by omega
   have ht0:(0:Int)≤(t:Int):=by omega
   rcases HR.out with hR|⟨b,off,rfl,hbl,hcell⟩
   ·subst hR;simp at hlt
   obtain ⟨c0,c1,c2⟩:=RdL.back (C:=w.heap.size) hcell t hlt;replace c0:=(HBB.out.cell (p:=⟨b,off+t * 3,none⟩) hbl).trans c0;replace c1:=(HBB.out.cell (p:=⟨b,off+t * 3+1,none⟩) hbl).trans c1;replace c2:=(HBB.out.cell (p:=⟨b,off+t * 3+2,none⟩) hbl).trans c2;have hrl:=Q50 l k i g ((pl:Int)) t;have HRS:=Q02 (show Q4N l k i g ((pl:Int)) (t+1)=Q4k k i g ((pl:Int)) (Q4N l k i g ((pl:Int)) t) t (l.getD t (0,0,false)) from rfl);have hput:=HPUT.out t;obtain ⟨x,y,u,hxyu⟩:∃x y u,l.getD t (0,0,false)=(x,y,u):=⟨_,_,_,rfl⟩
   rw [hxyu] at c0 c1 c2 HRS
   dsimp only at c0 c1 c2
   clear hxyu hcell;obtain ⟨s1,s2,hs12⟩:∃s1 s2,Q4N l k i g ((pl:Int)) t=(s1,s2):=⟨_,_,rfl⟩
   rw [hs12] at HO HRS hrl hput ⊢
   dsimp only at HO hrl hput ⊢
   clear hs12 HEND HPUT;have z1_wr:=bC HBR.out Z1 ZZ
   cases s2 with
   |false=> have:=hput rfl;simp [hk0] at this
   |true=>
    by_cases htp:t=pl
    ·subst htp
     have hteq:((t:Int)==(t:Int))=true:=beq_self_eq_true _
     by_cases h3:k=3
     ·subst h3
      have HRS2:=HRS.out
      unfold Q4k at HRS2
      simp only [if_true,Bool.true_eq_false,false_and,if_false] at HRS2
      have HRN:=Q02 HRS2;clear HRS HRS2
      (try have H1:=Q02 h1)
      (try have H3:=Q02 h3)
      (try clear h1 h3)
      (try clear h3)
      obtain ⟨W2,hW2⟩:∃W,wr.alloc (.cells #[.int .i64 x,.int .i64 y,.bool u] 119)=W:=⟨_,rfl⟩
      have HS2:Hid (St W0 W2 u7 s1 wr.heap.size x y u):=by rw [←hW2];exact St.start HO.out HBR.out
      have z1_W2:=bC HS2.out.bel Z1 ZZ;have u0_W2:=bC HS2.out.bel U0 ZU;have u1_W2:=bC HS2.out.bel U1 ZU;have u2_W2:=bC HS2.out.bel U2 ZU;have b0_W2:=Q00 HS2.out.box 0 _ rfl;have b1_W2:=Q00 HS2.out.box 1 _ rfl;have b2_W2:=Q00 HS2.out.box 2 _ rfl;have fb0_W2:=Q01 HS2.out.box 0;have fb1_W2:=Q01 HS2.out.box 1;have fb2_W2:=Q01 HS2.out.box 2;have HSL:=HS2
      go_wp2
      go_roundw
      case rel=> exact ⟨t+1,by omega,by go_num,by rw [HRN.out],by rw [HRN.out];exact HSL.out.own,HSL.out.bel⟩
      case measure=> simp [intOf];omega
     ·have h3':(k==3)=false:=beq_eq_false_iff_ne.2 h3
      by_cases h1:k=1
      ·have h1':(k==1)=true:=beq_iff_eq.2 h1
       have HRS2:=HRS.out
       unfold Q4k at HRS2
       simp only [if_true,if_neg h3,if_pos h1,Bool.true_eq_false,false_and,if_false] at HRS2
       have HRN:=Q02 HRS2;clear HRS HRS2
       (try have H1:=Q02 h1)
       (try have H3:=Q02 h3)
       (try clear h1 h3)
       (try clear h3)
       obtain ⟨W2,hW2⟩:∃W,wr.alloc (.cells #[.int .i64 x,.int .i64 y,.bool u] 119)=W:=⟨_,rfl⟩
       have HS2:Hid (St W0 W2 u7 s1 wr.heap.size x y u):=by rw [←hW2];exact St.start HO.out HBR.out
       have z1_W2:=bC HS2.out.bel Z1 ZZ;have u0_W2:=bC HS2.out.bel U0 ZU;have u1_W2:=bC HS2.out.bel U1 ZU;have u2_W2:=bC HS2.out.bel U2 ZU;have b0_W2:=Q00 HS2.out.box 0 _ rfl;have b1_W2:=Q00 HS2.out.box 1 _ rfl;have b2_W2:=Q00 HS2.out.box 2 _ rfl;have fb0_W2:=Q01 HS2.out.box 0;have fb1_W2:=Q01 HS2.out.box 1;have fb2_W2:=Q01 HS2.out.box 2;obtain ⟨W4,hW4⟩:∃W,W2.setCell ⟨wr.heap.size,1,none⟩ (.int .i64 g)=W:=⟨_,rfl⟩
       have HS4:Hid (St W0 W4 u7 s1 wr.heap.size x g u):=by rw [←hW4];exact HS2.out.put1 _
       have z1_W4:=bC HS4.out.bel Z1 ZZ;have b0_W4:=Q00 HS4.out.box 0 _ rfl;have b1_W4:=Q00 HS4.out.box 1 _ rfl;have b2_W4:=Q00 HS4.out.box 2 _ rfl
       go_wp2_with (at_builtin;refine Q07 Q3v rfl (.tmp 69) (.tmp 71) rfl W0.heap.size _ _ rfl (World.ownsRow.alloc HS4.out.own (.cells #[.int .i64 x,.int .i64 g,.bool u] 119)) (some ⟨W4.heap.size,0,none⟩) 1 (W4.alloc (.cells #[.int .i64 x,.int .i64 g,.bool u] 119)).heap.size [(x,g,u)] 1 rfl rfl (fun h=> by cases h) Q42 (by simp;omega) (by have:=HS4.out.bel.size;simp;omega) ?_)
       intro v6 w6 ho5 hg5 hn5
       have HSL:=Q02 (HS4.out.app ho5 hg5 hn5);clear ho5 hg5 hn5
       go_wp2
       go_roundw
       case rel=> exact ⟨t+1,by omega,by go_num,by rw [HRN.out],by rw [HRN.out];exact HSL.out.own,HSL.out.bel⟩
       case measure=> simp [intOf];omega
      ·have h1':(k==1)=false:=beq_eq_false_iff_ne.2 h1
       have HRS2:=HRS.out
       unfold Q4k at HRS2
       simp only [if_true,if_neg h3,if_neg h1,Bool.true_eq_false,false_and,if_false] at HRS2
       have HRN:=Q02 HRS2;clear HRS HRS2
       (try have H1:=Q02 h1)
       (try have H3:=Q02 h3)
       (try clear h1 h3)
       (try clear h3)
       obtain ⟨W2,hW2⟩:∃W,wr.alloc (.cells #[.int .i64 x,.int .i64 y,.bool u] 119)=W:=⟨_,rfl⟩
       have HS2:Hid (St W0 W2 u7 s1 wr.heap.size x y u):=by rw [←hW2];exact St.start HO.out HBR.out
       have z1_W2:=bC HS2.out.bel Z1 ZZ;have u0_W2:=bC HS2.out.bel U0 ZU;have u1_W2:=bC HS2.out.bel U1 ZU;have u2_W2:=bC HS2.out.bel U2 ZU;have b0_W2:=Q00 HS2.out.box 0 _ rfl;have b1_W2:=Q00 HS2.out.box 1 _ rfl;have b2_W2:=Q00 HS2.out.box 2 _ rfl;have fb0_W2:=Q01 HS2.out.box 0;have fb1_W2:=Q01 HS2.out.box 1;have fb2_W2:=Q01 HS2.out.box 2;obtain ⟨W4,hW4⟩:∃W,W2.setCell ⟨wr.heap.size,2,none⟩ (.bool true)=W:=⟨_,rfl⟩
       have HS4:Hid (St W0 W4 u7 s1 wr.heap.size x y true):=by rw [←hW4];exact HS2.out.put2 _
       have z1_W4:=bC HS4.out.bel Z1 ZZ;have b0_W4:=Q00 HS4.out.box 0 _ rfl;have b1_W4:=Q00 HS4.out.box 1 _ rfl;have b2_W4:=Q00 HS4.out.box 2 _ rfl
       go_wp2_with (at_builtin;refine Q07 Q3v rfl (.tmp 69) (.tmp 71) rfl W0.heap.size _ _ rfl (World.ownsRow.alloc HS4.out.own (.cells #[.int .i64 x,.int .i64 y,.bool true] 119)) (some ⟨W4.heap.size,0,none⟩) 1 (W4.alloc (.cells #[.int .i64 x,.int .i64 y,.bool true] 119)).heap.size [(x,y,true)] 1 rfl rfl (fun h=> by cases h) Q42 (by simp;omega) (by have:=HS4.out.bel.size;simp;omega) ?_)
       intro v6 w6 ho5 hg5 hn5
       have HSL:=Q02 (HS4.out.app ho5 hg5 hn5);clear ho5 hg5 hn5
       go_wp2
       go_roundw
       case rel=> exact ⟨t+1,by omega,by go_num,by rw [HRN.out],by rw [HRN.out];exact HSL.out.own,HSL.out.bel⟩
       case measure=> simp [intOf];omega
    ·have hne:((t:Int)==(pl:Int))=false:=beq_eq_false_iff_ne.2 (by omega)
     have hne2:¬((t:Int)=(pl:Int)):=by omega
     have HRS2:=HRS.out
     unfold Q4k at HRS2
     simp only [hne2,Bool.true_eq_false,false_and,if_false] at HRS2
     have HRN:=Q02 HRS2;clear HRS HRS2
     (try have H1:=Q02 h1)
     (try have H3:=Q02 h3)
     (try clear h1 h3)
     (try clear h3)
     obtain ⟨W2,hW2⟩:∃W,wr.alloc (.cells #[.int .i64 x,.int .i64 y,.bool u] 119)=W:=⟨_,rfl⟩
     have HS2:Hid (St W0 W2 u7 s1 wr.heap.size x y u):=by rw [←hW2];exact St.start HO.out HBR.out
     have z1_W2:=bC HS2.out.bel Z1 ZZ;have u0_W2:=bC HS2.out.bel U0 ZU;have u1_W2:=bC HS2.out.bel U1 ZU;have u2_W2:=bC HS2.out.bel U2 ZU;have b0_W2:=Q00 HS2.out.box 0 _ rfl;have b1_W2:=Q00 HS2.out.box 1 _ rfl;have b2_W2:=Q00 HS2.out.box 2 _ rfl;have fb0_W2:=Q01 HS2.out.box 0;have fb1_W2:=Q01 HS2.out.box 1;have fb2_W2:=Q01 HS2.out.box 2
     go_wp2_with (at_builtin;refine Q07 Q3v rfl (.tmp 69) (.tmp 71) rfl W0.heap.size _ _ rfl (World.ownsRow.alloc HS2.out.own (.cells #[.int .i64 x,.int .i64 y,.bool u] 119)) (some ⟨W2.heap.size,0,none⟩) 1 (W2.alloc (.cells #[.int .i64 x,.int .i64 y,.bool u] 119)).heap.size [(x,y,u)] 1 rfl rfl (fun h=> by cases h) Q42 (by simp;omega) (by have:=HS2.out.bel.size;simp;omega) ?_)
     intro v6 w6 ho5 hg5 hn5
     have HSL:=Q02 (HS2.out.app ho5 hg5 hn5);clear ho5 hg5 hn5
     go_wp2
     go_roundw
     case rel=> exact ⟨t+1,by omega,by go_num,by rw [HRN.out],by rw [HRN.out];exact HSL.out.own,HSL.out.bel⟩
     case measure=> simp [intOf];omega
  ·have e:t=l.length:=by omega
   subst e;obtain ⟨s1,s2,hs12⟩:∃s1 s2,Q4N l k i g ((pl:Int)) l.length=(s1,s2):=⟨_,_,rfl⟩;have hrl:=Q50 l k i g ((pl:Int)) l.length;have hput:=HPUT.out l.length
   rw [hs12] at HO HEND hrl hput ⊢
   dsimp only at HO hrl hput ⊢
   clear hs12 HPUT hlt;have z1_wr:=bC HBR.out Z1 ZZ;have u1_wr:=bC HBR.out U1 ZU;have u2_wr:=bC HBR.out U2 ZU
   cases s2 with
   |true=>
    obtain rfl:m=s1:=HEND.out.symm;have HOt:=HO;have HBt:=HBR;obtain ⟨o2,c2,e2,rd2⟩:=ownL.open (L:=Q12) HOt.out;have hcap2:=Q02 (Q8F HOt.out e2);subst e2;have HRD:=Q02 rd2;clear rd2 hput;have HBt2:Hid (Below w.heap.size w wr):=HB.out.trans (HBt.out.mono hW0s);have hszt:=HBt.out.size;have HRH:=Q02 (HG.out.kept HBt2.out (Kaq _));clear HG;have z0_wrt:=bC HBt.out Z0 ZZ;have z2_wrt:=bC HBt.out Z2 ZZ;have q0_wrt:=bC HBt.out Q0 ZQ;have q1_wrt:=bC HBt.out Q1 ZQ;have q2_wrt:=bC HBt.out Q2 ZQ
    have hml:m.length≤1000:=by omega
    go_upto_region 21 with fail
    go_cut [11] from 83 to 94 (fun s11 wx=> ∃B v',s11=.pointer (some ⟨B,0,none⟩)∧Hid (wx.heap[B]? =some (.cells #[.int .i64 key,.slice o2 m.length c2,v'] 29 (0,0)))∧Hid (Below wr.heap.size wr wx)∧wr.heap.size≤B∧B < wx.heap.size∧Hid (RingO wx wr.heap.size v' (fun b=> Q0Z key b m) hsR))
    case first=>
     have hzW:w.heap.size < wr.heap.size:=by have:=ZZ;omega
     go_region_held3 (fun w'=> w'.cell? ⟨w.heap.size,0,none⟩=some (.int .i64 key)∧w'.cell? ⟨w.heap.size,2,none⟩=some (.slice oR hsR.length cR)) (first|with_reducible exact ⟨k1_0,k1_1⟩|with_reducible exact ⟨k0_0,k0_1⟩|with_reducible exact ⟨z0_wrt,z2_wrt⟩|with_reducible exact ⟨Q08 k1_0 (show w.heap.size < wr.heap.size by omega),Q08 k1_1 (show w.heap.size < wr.heap.size by omega)⟩|with_reducible exact ⟨Q08 k1_0 (show w.heap.size < x0.heap.size by omega),Q08 k1_1 (show w.heap.size < x0.heap.size by omega)⟩|with_reducible exact ⟨Q08 k1_0 (show w.heap.size < x0.heap.size+1 by omega),Q08 k1_1 (show w.heap.size < x0.heap.size+1 by omega)⟩|go_keep) (first|(go_at_call 102;have hc_:=Q1v key o2 c2 m wr.drew ((HRD.out.kept (Below.drew (Below.refl _ _)) (Kaq _)).le (by simp)) hml hk hmok;with_reducible refine hc_.mono ?_;clear hc_;rintro e x0 ⟨o3,c3,hs3,rfl,ow3,tb3,hb⟩;have hp0:Below wr.heap.size wr x0:=Below.trans (show Below wr.heap.size wr wr.drew from (Below.drew (Below.refl _ _))) (hb.mono (by simp));have sp0:=hp0.size;have ow3:=Q04 ow3 (show wr.heap.size≤_ by simp);have tb3:=Tab.mono tb3 (show wr.heap.size≤_ by simp);have k0_0:=bC hp0 z0_wrt hzW;have k0_1:=bC hp0 z2_wrt hzW;clear hb)|(go_at_call 102;have hc_:=Q1v key o2 c2 m (wr.alloc (.cells #[.int .i64 0,.slice none 0 0,.slice none 0 0] 29)).drew ((HRD.out.kept (Below.drew ((Below.refl _ _).alloc (Kaq _) _)) (Kaq _)).le (by simp)) hml hk hmok;with_reducible refine hc_.mono ?_;clear hc_;rintro e x0 ⟨o3,c3,hs3,rfl,ow3,tb3,hb⟩;have hp0:Below wr.heap.size wr x0:=Below.trans (show Below wr.heap.size wr (wr.alloc (.cells #[.int .i64 0,.slice none 0 0,.slice none 0 0] 29)).drew from (Below.drew ((Below.refl _ _).alloc (Kaq _) _))) (hb.mono (by simp));have sp0:=hp0.size;have ow3:=Q04 ow3 (show wr.heap.size≤_ by simp);have tb3:=Tab.mono tb3 (show wr.heap.size≤_ by simp);have k0_0:=bC hp0 z0_wrt hzW;have k0_1:=bC hp0 z2_wrt hzW;have hZ0:=Q4g hb;have hzl0:=(Array.getElem?_eq_some_iff.1 hZ0).1;clear hb)|(have hbv:Below x0.heap.size x0 (x0.alloc (.cells #[.slice o3 8 c3] 51)):=((Below.refl x0.heap.size x0).alloc (Kaq _) (.cells #[.slice o3 8 c3] 51));have own_:ownL Q0C 51 (x0.alloc (.cells #[.slice o3 8 c3] 51)) wr.heap.size (.slice (some ⟨x0.heap.size,0,none⟩) 1 1) [(o3,8,c3)]:=Q04 (Q44 x0 o3 8 c3 _) (by (try simp) <;> omega);have hbw:Below w.heap.size w (x0.alloc (.cells #[.slice o3 8 c3] 51)):=HBt2.out.trans ((hp0.mono HBt2.out.size).trans (hbv.mono (Kdq HBt2.out.size sp0)));refine Q0n Q5y rfl (.tmp 90) (.tmp 92) rfl wr.heap.size (.slice (some ⟨x0.heap.size,0,none⟩) 1 1) [(o3,8,c3)] rfl own_ oR cR w.heap.size hsR hsR.length rfl rfl hnR (HRH.out.kept (hp0.trans (hbv.mono sp0)) HBt2.out.size) (by simp;omega) (by simp;omega) ?_;intro v4 x1 ho4 hg4 hn4;have hr4:=Q2p own_ (Q03 ow3 hbv) (tb3.kept hbv) ho4 hg4;obtain ⟨g4,c4,e4⟩:=RingO.isSome hr4;subst e4;have hp1:Below wr.heap.size wr x1:=(hp0.trans (hbv.mono sp0)).grown hg4 (by (try simp) <;> omega) (fun k h=> (own_.lt k h).1);have sp1:=hp1.size;have k1_0:=bC hp1 z0_wrt hzW;have k1_1:=bC hp1 z2_wrt hzW;(try have hZ1:=Q3H hg4 ((Below.heap_alloc _ _ _ hzl0).trans hZ0) (Nat.ne_of_lt hzl0));(try have hzc1_0:=Q00 hZ1 0 _ rfl);(try have hzf1_0:=Q01 hZ1 0);(try have hzc1_1:=Q00 hZ1 1 _ rfl);(try have hzf1_1:=Q01 hZ1 1);(try have hzc1_2:=Q00 hZ1 2 _ rfl);(try have hzf1_2:=Q01 hZ1 2);clear ho4 hg4 hn4 own_ hbw hbv)|(have hbv:Below x0.heap.size x0 ((x0.alloc (.cells #[.int .i64 0,.slice none 0 0,.slice none 0 0] 29)).alloc (.cells #[.slice o3 8 c3] 51)):=(((Below.refl x0.heap.size x0).alloc (Kaq _) (.cells #[.int .i64 0,.slice none 0 0,.slice none 0 0] 29)).alloc (by simp) (.cells #[.slice o3 8 c3] 51));have own_:ownL Q0C 51 ((x0.alloc (.cells #[.int .i64 0,.slice none 0 0,.slice none 0 0] 29)).alloc (.cells #[.slice o3 8 c3] 51)) wr.heap.size (.slice (some ⟨x0.heap.size+1,0,none⟩) 1 1) [(o3,8,c3)]:=Q04 (Q8i x0 (.cells #[.int .i64 0,.slice none 0 0,.slice none 0 0] 29) o3 8 c3 _) (by (try simp) <;> omega);have hbw:Below w.heap.size w ((x0.alloc (.cells #[.int .i64 0,.slice none 0 0,.slice none 0 0] 29)).alloc (.cells #[.slice o3 8 c3] 51)):=HBt2.out.trans ((hp0.mono HBt2.out.size).trans (hbv.mono (Kdq HBt2.out.size sp0)));refine Q0n Q5y rfl (.tmp 90) (.tmp 92) rfl wr.heap.size (.slice (some ⟨x0.heap.size+1,0,none⟩) 1 1) [(o3,8,c3)] rfl own_ oR cR w.heap.size hsR hsR.length rfl rfl hnR (HRH.out.kept (hp0.trans (hbv.mono sp0)) HBt2.out.size) (by simp;omega) (by simp;omega) ?_;intro v4 x1 ho4 hg4 hn4;have hr4:=Q2p own_ (Q03 ow3 hbv) (tb3.kept hbv) ho4 hg4;obtain ⟨g4,c4,e4⟩:=RingO.isSome hr4;subst e4;have hp1:Below wr.heap.size wr x1:=(hp0.trans (hbv.mono sp0)).grown hg4 (by (try simp) <;> omega) (fun k h=> (own_.lt k h).1);have sp1:=hp1.size;have k1_0:=bC hp1 z0_wrt hzW;have k1_1:=bC hp1 z2_wrt hzW;have hZ2:=Q3H hg4 (Q3E x0 #[.int .i64 0,.slice none 0 0,.slice none 0 0] 29 (.cells #[.slice o3 8 c3] 51)) (Nat.ne_of_lt (Nat.lt_succ_self _));(try have hzc2_0:=Q00 hZ2 0 _ rfl);(try have hzf2_0:=Q01 hZ2 0);(try have hzc2_1:=Q00 hZ2 1 _ rfl);(try have hzf2_1:=Q01 hZ2 1);(try have hzc2_2:=Q00 hZ2 2 _ rfl);(try have hzf2_2:=Q01 hZ2 2);clear ho4 hg4 hn4 own_ hbw hbv)|(have hbv:Below x0.heap.size x0 ((x0.alloc (.cells #[.slice o3 8 c3] 51)).alloc (.cells #[.int .i64 0,.slice none 0 0,.slice none 0 0] 29)):=(((Below.refl x0.heap.size x0).alloc (Kaq _) (.cells #[.slice o3 8 c3] 51)).alloc (by simp) (.cells #[.int .i64 0,.slice none 0 0,.slice none 0 0] 29));have own_:ownL Q0C 51 ((x0.alloc (.cells #[.slice o3 8 c3] 51)).alloc (.cells #[.int .i64 0,.slice none 0 0,.slice none 0 0] 29)) wr.heap.size (.slice (some ⟨x0.heap.size,0,none⟩) 1 1) [(o3,8,c3)]:=Q04 (World.ownsRow.alloc (Q44 x0 o3 8 c3 _) (.cells #[.int .i64 0,.slice none 0 0,.slice none 0 0] 29)) (by (try simp) <;> omega);have hbw:Below w.heap.size w ((x0.alloc (.cells #[.slice o3 8 c3] 51)).alloc (.cells #[.int .i64 0,.slice none 0 0,.slice none 0 0] 29)):=HBt2.out.trans ((hp0.mono HBt2.out.size).trans (hbv.mono (Kdq HBt2.out.size sp0)));refine Q0n Q5y rfl (.tmp 90) (.tmp 92) rfl wr.heap.size (.slice (some ⟨x0.heap.size,0,none⟩) 1 1) [(o3,8,c3)] rfl own_ oR cR w.heap.size hsR hsR.length rfl rfl hnR (HRH.out.kept (hp0.trans (hbv.mono sp0)) HBt2.out.size) (by simp;omega) (by simp;omega) ?_;intro v4 x1 ho4 hg4 hn4;have hr4:=Q2p own_ (Q03 ow3 hbv) (tb3.kept hbv) ho4 hg4;obtain ⟨g4,c4,e4⟩:=RingO.isSome hr4;subst e4;have hp1:Below wr.heap.size wr x1:=(hp0.trans (hbv.mono sp0)).grown hg4 (by (try simp) <;> omega) (fun k h=> (own_.lt k h).1);have sp1:=hp1.size;have k1_0:=bC hp1 z0_wrt hzW;have k1_1:=bC hp1 z2_wrt hzW;have hZ3:=Q3H hg4 (Q1N x0 #[.int .i64 0,.slice none 0 0,.slice none 0 0] 29 (.cells #[.slice o3 8 c3] 51)) (Nat.ne_of_gt (Nat.lt_succ_self _));(try have hzc3_0:=Q00 hZ3 0 _ rfl);(try have hzf3_0:=Q01 hZ3 0);(try have hzc3_1:=Q00 hZ3 1 _ rfl);(try have hzf3_1:=Q01 hZ3 1);(try have hzc3_2:=Q00 hZ3 2 _ rfl);(try have hzf3_2:=Q01 hZ3 2);clear ho4 hg4 hn4 own_ hbw hbv))
     all_goals (go_wp2_with fail;go_meet)
     all_goals first
      |with_reducible exact Qfq hZ1 hp1 (by omega) hr4
      |with_reducible exact Qfq hZ2 hp1 (by omega) hr4
      |with_reducible exact Qfq hZ3 hp1 (by omega) hr4
      |with_reducible exact QgR hp1 hr4
    case rest=>
    obtain ⟨B,v',rfl,Hbx,Hbl,hB1,hB2,Hr⟩:=hcut;obtain ⟨g4,c4,e4⟩:=RingO.isSome Hr.out;subst e4;have hcap4:=RingO.cap Hr.out;have hqz:=ZQ
    have hqz2:w.heap.size+1+1 < wr.heap.size:=by omega
    have hwc:=Hbl.out.size;have qc0:=bC Hbl.out q0_wrt hqz2;have fqc0:=bF Hbl.out (bF HBt.out FQ0 ZQ) hqz2;have bc0:=Q00 Hbx.out 0 _ rfl;have fbc0:=Q01 Hbx.out 0;have qc1:=bC Hbl.out q1_wrt hqz2;have fqc1:=bF Hbl.out (bF HBt.out FQ1 ZQ) hqz2;have bc1:=Q00 Hbx.out 1 _ rfl;have fbc1:=Q01 Hbx.out 1;have qc2:=bC Hbl.out q2_wrt hqz2;have fqc2:=bF Hbl.out (bF HBt.out FQ2 ZQ) hqz2;have bc2:=Q00 Hbx.out 2 _ rfl;have fbc2:=Q01 Hbx.out 2;clear z0_wrt z2_wrt q0_wrt q1_wrt q2_wrt;have HOw:=Q02 (Q03 HOt.out Hbl.out);have HBw:Hid (Below w.heap.size w wc):=HBt2.out.trans (Hbl.out.mono HBt2.out.size)
    have hne1:B≠w.heap.size+1+1:=by omega
    have hne2:w.heap.size+1+1≠B:=by omega
    by_cases h4:hsR.length=3
    ·skip
     have h4':(hsR.length:Int)=3:=by omega
     have h41:3≤c4:=by omega
     obtain ⟨W5,hW5⟩:∃W,wc.setCell ⟨B,2,none⟩ (.slice (some ⟨g4,0,none⟩) 3 c4)=W:=⟨_,rfl⟩
     have hW5b:W5.heap[B]? =some (.cells #[.int .i64 key,.slice o2 m.length c2,.slice (some ⟨g4,0,none⟩) 3 c4] 29 (0,0)):=by rw [←hW5];exact Q06 Hbx.out 2 _
     have b50:=Q00 hW5b 0 _ rfl
     have q50:W5.cell? ⟨w.heap.size+1+1,0,none⟩=some (.int .i64 0):=by rw [←hW5];exact (Q1e hne2).trans qc0
     have fq50:W5.frozen? ⟨w.heap.size+1+1,0,none⟩=false:=by rw [←hW5];exact (Q0P hne2).trans fqc0
     have b51:=Q00 hW5b 1 _ rfl
     have q51:W5.cell? ⟨w.heap.size+1+1,1,none⟩=some (.slice none 0 0):=by rw [←hW5];exact (Q1e hne2).trans qc1
     have fq51:W5.frozen? ⟨w.heap.size+1+1,1,none⟩=false:=by rw [←hW5];exact (Q0P hne2).trans fqc1
     have b52:=Q00 hW5b 2 _ rfl
     have q52:W5.cell? ⟨w.heap.size+1+1,2,none⟩=some (.slice none 0 0):=by rw [←hW5];exact (Q1e hne2).trans qc2
     have fq52:W5.frozen? ⟨w.heap.size+1+1,2,none⟩=false:=by rw [←hW5];exact (Q0P hne2).trans fqc2
     have HO5:Hid (Q1i W5 W0.heap.size (.slice o2 m.length c2) m):=by rw [←hW5];exact Q0o HOw.out Hbx.out Q7p 2 _
     have HR5:Hid (RingO W5 wr.heap.size (.slice (some ⟨g4,0,none⟩) (hsR.length+1) c4) (fun b=> Q0Z key b m) hsR):=by rw [←hW5];exact Hr.out.put Hbx.out 2 _
     have HB5:Hid (Below w.heap.size w W5):=by rw [←hW5];exact HBw.out.setCell (p:=⟨B,2,none⟩) (show w.heap.size≤B by have:=HBt2.out.size;omega) _
     obtain ⟨o3,c3,hs3,rg1,rg2,rg3⟩:=((HR5.out.low hqz2 0 (.int .i64 key)).low hqz2 1 (.slice o2 m.length c2)).low hqz2 2 (.slice (some ⟨g4,0,none⟩) 3 c4);have HG1:=Q02 rg1;have HG2:=Q02 rg2;have HG3:=Q02 rg3;clear rg1 rg2 rg3
     go_wp2
     refine bodyPost_ret (v:=.tuple #[plv key (.slice o2 m.length c2) (.slice (some ⟨g4,0,none⟩) 3 c4),.bool true]) (by simp [results,Tryz.results95,go_sem,q50,q51,q52]) rfl ?_
     unfold Q5V
     refine ⟨o2,c2,some ⟨g4,0,none⟩,3,c4,o3,c3,hs3,rfl, ?_, ?_, ?_,Q04 HG2.out (by omega),Tab.mono HG3.out (by omega), ?_⟩
     ·simp;omega
     ·exact Q04 (Q0k (Q0k (Q0k HO5.out ZQ 0 _) ZQ 1 _) ZQ 2 _) hW0s
     ·exact Q04 (Q6H HG1.out (by simp;omega)) (by omega)
     ·exact ((HB5.out.setCell (p:=⟨w.heap.size+1+1,0,none⟩) (by (try simp) <;> omega) _).setCell (p:=⟨w.heap.size+1+1,1,none⟩) (by (try simp) <;> omega) _).setCell (p:=⟨w.heap.size+1+1,2,none⟩) (by (try simp) <;> omega) _
    ·skip
     have h4':¬((hsR.length:Int)+1 > 3):=by omega
     have h4d:decide (3 < (hsR.length:Int)+1)=false:=decide_eq_false (by omega)
     obtain ⟨o3,c3,hs3,rg1,rg2,rg3⟩:=((Hr.out.low hqz2 0 (.int .i64 key)).low hqz2 1 (.slice o2 m.length c2)).low hqz2 2 (.slice (some ⟨g4,0,none⟩) (hsR.length+1) c4);have HG1:=Q02 rg1;have HG2:=Q02 rg2;have HG3:=Q02 rg3;clear rg1 rg2 rg3
     go_wp2
     refine bodyPost_ret (v:=.tuple #[plv key (.slice o2 m.length c2) (.slice (some ⟨g4,0,none⟩) (hsR.length+1) c4),.bool true]) (by simp [results,Tryz.results95,go_sem,qc0,qc1,qc2,hne1,hne2]) rfl ?_
     unfold Q5V
     refine ⟨o2,c2,some ⟨g4,0,none⟩,(hsR.length+1),c4,o3,c3,hs3,rfl, ?_, ?_, ?_,Q04 HG2.out (by omega),Tab.mono HG3.out (by omega), ?_⟩
     ·simp;omega
     ·exact Q04 (Q0k (Q0k (Q0k HOw.out ZQ 0 _) ZQ 1 _) ZQ 2 _) hW0s
     ·have e:((o3,8,c3)::hsR).take 3=(o3,8,c3)::hsR:=List.take_of_length_le (by simp;omega)
      rw [e]
      exact Q04 HG1.out (by omega)
     ·exact ((HBw.out.setCell (p:=⟨w.heap.size+1+1,0,none⟩) (by (try simp) <;> omega) _).setCell (p:=⟨w.heap.size+1+1,1,none⟩) (by (try simp) <;> omega) _).setCell (p:=⟨w.heap.size+1+1,2,none⟩) (by (try simp) <;> omega) _
   |false=>
    have:=hput rfl
    simp [hk0] at this
structure Pm where
 key:Int
 l:List Bk
 ring:List (List (List Int))
def RiPm (lo hi:Nat) (w:World) (v:Value) (m:Pm):Prop:=∃vb vr,v=plv m.key vb vr∧RiV Q12 lo hi w vb m.l∧RiR lo hi w vr m.ring
abbrev Q9S (C:Nat) (w:World) (v:Value) (m:Pm):Prop:=RiPm 0 C w v m
def InPm (lo hi:Nat) (w:World) (v:Value) (m:Pm):Prop:=∃vb vr mid,v=plv m.key vb vr∧lo≤mid∧mid≤hi∧InL Q12 119 lo mid w vb m.l∧InR mid hi w vr m.ring
theorem RiPm.step {a b lo hi:Nat} {w w':World} {v:Value} {m:Pm} (h:RiPm a b w v m) (s:Stp lo hi w w') (hd:hi≤a∨b≤lo):RiPm a b w' v m:=by
 obtain ⟨vb,vr,e,h1,h2⟩:=h
 exact ⟨vb,vr,e,h1.step s hd,RiR.stp.go h2 s hd⟩
theorem RiPm.mono {a b a' b':Nat} {w:World} {v:Value} {m:Pm} (h:RiPm a b w v m) (k1:a'≤a) (k2:b≤b'):RiPm a' b' w v m:=by
 obtain ⟨vb,vr,e,h1,h2⟩:=h
 exact ⟨vb,vr,e,h1.mono k1 k2,RiR.mon.go h2 k1 k2⟩
theorem RiPm.rd {lo hi:Nat} {w:World} {v:Value} {m:Pm} (h:RiPm lo hi w v m):Q9S hi w v m:=h.mono (Kcq _) (Kaq _)
theorem RiPm.le {lo C D:Nat} {w:World} {v:Value} {m:Pm} (h:RiPm lo C w v m) (hc:C≤D):RiPm lo D w v m:=h.mono (Kaq _) hc
theorem RiPm.kept {lo C D:Nat} {w w':World} {v:Value} {m:Pm} (h:RiPm lo C w v m) (hb:Below D w w') (hc:C≤D):RiPm lo C w' v m:=
 h.step (lo:=C) (hi:=w.heap.size+C) ⟨hb.os,hb.tape,hb.output,hb.size,fun k hk hn=> hb.block k (by omega)⟩ (.inr (Kaq _))
theorem InPm.step {a b lo hi:Nat} {w w':World} {v:Value} {m:Pm} (h:InPm a b w v m) (s:Stp lo hi w w') (hd:hi≤a∨b≤lo):InPm a b w' v m:=by
 obtain ⟨vb,vr,mid,e,k1,k2,h1,h2⟩:=h
 exact ⟨vb,vr,mid,e,k1,k2,InRow.step h1 s (by omega),InR.stp.go h2 s (by omega)⟩
theorem InPm.ri {lo hi:Nat} {w:World} {v:Value} {m:Pm} (h:InPm lo hi w v m):RiPm lo hi w v m:=by
 obtain ⟨vb,vr,mid,e,k1,k2,h1,h2⟩:=h
 exact ⟨vb,vr,e,(InRow.ri h1).mono (Kaq _) k2,RiR.mon.go (InR.ri h2) k1 (Kaq _)⟩
theorem InPm.rd {lo hi:Nat} {w:World} {v:Value} {m:Pm} (h:InPm lo hi w v m):Q9S hi w v m:=h.ri.rd
theorem RiR.len {lo hi:Nat} {w:World} {v:Value} {lll:List (List (List Int))} (h:RiR lo hi w v lll):∃o c,v=.slice o lll.length c:=by
 obtain ⟨hs,h0,⟨o,c,e,_⟩,_⟩:=h
 exact ⟨o,c,by rw [e,h0]⟩
theorem RiPm.opn {lo hi:Nat} {w:World} {v:Value} {m:Pm} (h:RiPm lo hi w v m):∃(o:Option Addr) (c:Nat) (oR:Option Addr) (cR:Nat),v=plv m.key (.slice o m.l.length c) (.slice oR m.ring.length cR):=by
 obtain ⟨vb,vr,e,⟨o,c,e1,_⟩,h2⟩:=h;obtain ⟨oR,cR,e2⟩:=RiR.len h2
 exact ⟨o,c,oR,cR,by rw [e,e1,e2]⟩
theorem InPm.opn {lo hi:Nat} {w:World} {v:Value} {m:Pm} (h:InPm lo hi w v m):∃(o:Option Addr) (c:Nat) (oR:Option Addr) (cR:Nat),v=plv m.key (.slice o m.l.length c) (.slice oR m.ring.length cR):=h.ri.opn
def Q36 (m:Pm):Prop:=m.l.length≤1048576∧m.ring.length≤1048576∧szR m.ring≤1048576∧(∀i,i < m.ring.length→(m.ring.getD i []).length≤1048576)∧∀i,i < m.ring.length→∀j,j < (m.ring.getD i []).length→((m.ring.getD i []).getD j []).length≤1048576
def Q3i (m1 m2:Pm):Bool:=decide (m1.key=m2.key) && decide (m1.l=m2.l) && Q1l m1.ring m2.ring
theorem Q68 (v1 v2:Value) (m1 m2:Pm) (w:World) (h1:Q9S w.heap.size w v1 m1) (h2:Q9S w.heap.size w v2 m2) (hf1:Q36 m1) (hf2:Q36 m2):
  Calls Tryz.prog 86 #[v1,v2] w fun e w'=> e=.returned (.bool (Q3i m1 m2))∧Below w.heap.size w w':=by
 obtain ⟨vb1,vr1,rfl,hb1,r1⟩:=h1;obtain ⟨vb2,vr2,rfl,hb2,r2⟩:=h2;obtain ⟨o1,c1,rfl,k1⟩:=hb1.open;obtain ⟨o2,c2,rfl,k2⟩:=hb2.open;obtain ⟨oR1,cR1,rfl⟩:=RiR.len r1;obtain ⟨oR2,cR2,rfl⟩:=RiR.len r2;obtain ⟨f1,f2,f3,f4,f5⟩:=hf1;obtain ⟨g1,g2,g3,g4,g5⟩:=hf2;have HSB:=Q02 (show Q3i m1 m2=(decide (m1.key=m2.key) && decide (m1.l=m2.l) && Q1l m1.ring m2.ring) from rfl);obtain ⟨p1,hp1⟩:∃x,m1.key=x:=⟨_,rfl⟩;obtain ⟨p2,hp2⟩:∃x,m2.key=x:=⟨_,rfl⟩;obtain ⟨b1,hb1'⟩:∃x,m1.l.length=x:=⟨_,rfl⟩;obtain ⟨b2,hb2'⟩:∃x,m2.l.length=x:=⟨_,rfl⟩;obtain ⟨q1,hq1⟩:∃x,m1.ring.length=x:=⟨_,rfl⟩
 obtain ⟨q2,hq2⟩:∃x,m2.ring.length=x:=⟨_,rfl⟩
 have HBK:=Q02 (fun W (hb:Below w.heap.size w W)=> Qap o1 o2 b1 b2 c1 c2 m1.l m2.l W hb1'.symm hb2'.symm ((k1.kept hb (Kaq _)).le hb.size) ((k2.kept hb (Kaq _)).le hb.size) f1 g1)
 have HRG:=Q02 (fun W (hb:Below w.heap.size w W)=> Qcj oR1 oR2 q1 q2 cR1 cR2 m1.ring m2.ring W hq1.symm hq2.symm (by rw [←hq1];exact RiR.mon.go (RiR.stp.go r1 (Stp.of (lo:=0) (hi:=0) hb) (.inl (Kcq _))) (Kaq _) hb.size) (by rw [←hq2];exact RiR.mon.go (RiR.stp.go r2 (Stp.of (lo:=0) (hi:=0) hb) (.inl (Kcq _))) (Kaq _) hb.size) (by rw [←hq1];exact f2) f4 f5 g4 g5)
 rw [hp1,hp2,hb1',hb2',hq1,hq2]
 rw [hp1,hp2] at HSB
 clear r1 r2 k1 k2 hb1 hb2 f4 f5 g4 g5 hp1 hp2 hb1' hb2' hq1 hq2;obtain ⟨W0,hW0⟩:∃W,((w.alloc (.cells #[.int .i64 p1,.slice o1 b1 c1,.slice oR1 q1 cR1] 29)).alloc (.cells #[.int .i64 p2,.slice o2 b2 c2,.slice oR2 q2 cR2] 29))=W:=⟨_,rfl⟩
 have hb_W0:Below w.heap.size w W0:=by rw [←hW0];exact (((Below.refl _ _).alloc (Kaq _) _).alloc (by simp <;> omega) _)
 have HB:=Q02 hb_W0;clear hb_W0
 have zz:w.heap.size < W0.heap.size:=by rw [←hW0];simp <;> omega
 obtain ⟨z0,z1,z2⟩:=alc3v0v2 hW0
 have zu:w.heap.size+1 < W0.heap.size:=by rw [←hW0];simp
 obtain ⟨u0,u1,u2⟩:=alc3v1v2 hW0
 by_cases hk:p1=p2
 ·subst hk
  rw [decide_eq_true rfl,Bool.true_and] at HSB
  obtain ⟨t1,ht1⟩:∃t,decide (m1.l=m2.l)=t:=⟨_,rfl⟩
  rw [ht1] at HSB HBK
  clear ht1
  go_enter Tryz.func86,Tryz.ntmps86
  go_wp2_with fail
  refine (HBK.out W0 HB.out).mono ?_
  rintro e v1 ⟨rfl,hb⟩
  replace z0:=bC hb z0 zz;replace z1:=bC hb z1 zz;replace z2:=bC hb z2 zz;replace zz:=Kbq zz hb.size;replace u0:=bC hb u0 zu;replace u1:=bC hb u1 zu;replace u2:=bC hb u2 zu;replace zu:=Kbq zu hb.size;replace HB:=Q02 (HB.out.trans (hb.mono HB.out.size));clear hb
  cases t1 with
  |false=>
   go_wp2
   go_ret
   exact ⟨Q0c (by rw [HSB.out];rfl),HB.out⟩
  |true=>
   go_wp2_with fail
   refine (HRG.out v1 HB.out).mono ?_
   rintro e v2 ⟨rfl,hb⟩
   replace z0:=bC hb z0 zz;replace z1:=bC hb z1 zz;replace z2:=bC hb z2 zz;replace zz:=Kbq zz hb.size;replace u0:=bC hb u0 zu;replace u1:=bC hb u1 zu;replace u2:=bC hb u2 zu;replace zu:=Kbq zu hb.size;replace HB:=Q02 (HB.out.trans (hb.mono HB.out.size));clear hb
   go_wp2
   go_ret
   exact ⟨Q0c (by rw [HSB.out];rfl),HB.out⟩
 ·rw [decide_eq_false hk] at HSB
  go_enter Tryz.func86,Tryz.ntmps86
  go_wp2
  go_ret
  exact ⟨Q0c (by rw [HSB.out];rfl),HB.out⟩
structure Bm where
 j:Jm
 p:Pm
 t:List Sl
abbrev Q1d (kj:Int) (vl:Value) (sf kp:Int) (vb vr vt:Value):Value:=.agg #[.int .i64 kj,vl,.int .i64 sf,.int .i64 kp,vb,vr,vt]
def RdBm (C:Nat) (w:World) (v:Value) (m:Bm):Prop:=∃vl vb vr vt,v=Q1d m.j.key vl m.j.safe m.p.key vb vr vt∧RdJm C w (jrn m.j.key vl m.j.safe) m.j∧Q9S C w (plv m.p.key vb vr) m.p∧RdT C w (tab vt) m.t
def InBm (lo hi:Nat) (w:World) (v:Value) (m:Bm):Prop:=∃vl vb vr vt j0 j1 p0 p1 t0 t1,v=Q1d m.j.key vl m.j.safe m.p.key vb vr vt∧(lo≤j0∧j1≤hi∧lo≤p0∧p1≤hi∧lo≤t0∧t1≤hi∧(j1≤p0∨p1≤j0)∧(j1≤t0∨t1≤j0)∧(p1≤t0∨t1≤p0))∧InJm j0 j1 w (jrn m.j.key vl m.j.safe) m.j∧InPm p0 p1 w (plv m.p.key vb vr) m.p∧InTb t0 t1 w (tab vt) m.t
theorem InBm.asc {lo hi a b:Nat} {w:World} {m:Bm} {vl vb vr vt:Value} (k1:lo≤a) (k2:a≤b) (k3:b≤hi) (h1:InJm lo a w (jrn m.j.key vl m.j.safe) m.j) (h2:InPm a b w (plv m.p.key vb vr) m.p) (h3:InTb b hi w (tab vt) m.t):InBm lo hi w (Q1d m.j.key vl m.j.safe m.p.key vb vr vt) m:=
 ⟨vl,vb,vr,vt,lo,a,a,b,b,hi,rfl,by omega,h1,h2,h3⟩
theorem InBm.rd {lo hi:Nat} {w:World} {v:Value} {m:Bm} (h:InBm lo hi w v m):RdBm hi w v m:=by
 obtain ⟨vl,vb,vr,vt,j0,j1,p0,p1,t0,t1,e,k,h1,h2,h3⟩:=h
 exact ⟨vl,vb,vr,vt,e,h1.rd.le (by omega),h2.rd.le (by omega),h3.rd.le (by omega)⟩
theorem InBm.step {x y lo hi:Nat} {w w':World} {v:Value} {m:Bm} (h:InBm x y w v m) (s:Stp lo hi w w') (hd:hi≤x∨y≤lo):InBm x y w' v m:=by
 obtain ⟨vl,vb,vr,vt,j0,j1,p0,p1,t0,t1,e,k,h1,h2,h3⟩:=h
 exact ⟨vl,vb,vr,vt,j0,j1,p0,p1,t0,t1,e,k,h1.step s (by omega),h2.step s (by omega),h3.step s (by omega)⟩
theorem RdBm.opn {C:Nat} {w:World} {v:Value} {m:Bm} (h:RdBm C w v m):∃(o:Option Addr) (c:Nat) (ob:Option Addr) (cb:Nat) (oR:Option Addr) (cR:Nat) (ot:Option Addr) (ct:Nat),v=Q1d m.j.key (.slice o m.j.l.length c) m.j.safe m.p.key (.slice ob m.p.l.length cb) (.slice oR m.p.ring.length cR) (.slice ot m.t.length ct):=by
 obtain ⟨vl,vb,vr,vt,e,⟨vl',e1,o,c,e1',_⟩,h2,⟨vt',e3,ot,ct,e3',_⟩⟩:=h;obtain ⟨ob,cb,oR,cR,e2⟩:=h2.opn
 simp only [Value.agg.injEq,Array.mk.injEq,List.cons.injEq,and_true,true_and] at e1 e2 e3
 obtain ⟨e21,e22⟩:=e2;subst e1 e1' e3 e3' e21 e22
 exact ⟨o,c,ob,cb,oR,cR,ot,ct,e⟩
def fitBm (m:Bm):Prop:=m.j.l.length≤100000∧Q36 m.p∧m.t.length≤1048576
def Q9U (m:Bm):Prop:=m.j.l.length≤1048576∧Q36 m.p∧m.t.length≤1048576
theorem fitBm.b0 {m:Bm} (h:fitBm m):Q9U m:=⟨by have:=h.1;omega,h.2.1,h.2.2⟩
theorem Qdw (key:Int) (o:Option Addr) (cap:Nat) (l:List Bk) (oR:Option Addr) (nR cR:Nat) (k i g:Int) (w:World) (hl:Q0a l=true) (hm:doL l k i g=none) (hlen:l.length≤100) (hR:RdK w.heap.size w o l):
  Calls Tryz.prog 95 #[plv key (.slice o l.length cap) (.slice oR nR cR),cmd k i g] w fun e w'=> e=.returned (.tuple #[plv key (.slice o l.length cap) (.slice oR nR cR),.bool false])∧Below w.heap.size w w':=by
 have hth:Q0x l i=(k==0):=by
  unfold doL at hm
  split at hm
  ·assumption
  ·cases hm
 obtain ⟨W0,hW0⟩:∃W,(((w.alloc (.cells #[.int .i64 key,.slice o l.length cap,.slice oR nR cR] 29)).alloc (.cells #[.int .i64 k,.int .i64 i,.int .i64 g] 77)).alloc (.cells #[.int .i64 0,.slice none 0 0,.slice none 0 0] 29))=W:=⟨_,rfl⟩
 have hb_W0:Below w.heap.size w W0:=by rw [←hW0];exact ((((Below.refl _ _).alloc (Kaq _) _).alloc (by simp <;> omega) _).alloc (by simp <;> omega) _)
 have HB:=Q02 hb_W0;clear hb_W0
 have zz:w.heap.size < W0.heap.size:=by rw [←hW0];simp <;> omega
 obtain ⟨z0,z1,z2⟩:=alc3v0v3 hW0
 have zu:w.heap.size+1 < W0.heap.size:=by rw [←hW0];simp <;> omega
 obtain ⟨u0,u1,u2⟩:=alc3v1v3 hW0
 have zr:w.heap.size+1+1 < W0.heap.size:=by rw [←hW0];simp
 obtain ⟨r0,r1,r2⟩:=alc3v2v3 hW0;obtain ⟨fr0,fr1,fr2⟩:=alf3v2v3 hW0
 have HF:=Q02 (Q5R o cap l i W0 ((hR.kept HB.out (Kaq _)).le HB.out.size) (by omega) hl)
 clear hR hm
 by_cases h0:k=0
 ·subst h0
  have h1:Q0x l i=true:=hth
  rw [Qb0 h1] at HF
  have hge:(0:Int)≤(Q0d l i:Int):=by omega
  clear hth h1;generalize Q0d l i=pl at *
  go_enter Tryz.func95,Tryz.ntmps95
  go_wp2_with fail
  refine HF.out.mono ?_
  rintro e w9 ⟨rfl,rfl⟩
  go_wp2
  refine bodyPost_ret (v:=.tuple #[plv key (.slice o l.length cap) (.slice oR nR cR),.bool false]) (by simp [results,Tryz.results95,go_sem,r0,r1,r2]) rfl ⟨rfl, ?_⟩
  exact ((HB.out.setCell (p:=⟨w.heap.size+1+1,0,none⟩) (by (try simp) <;> omega) _).setCell (p:=⟨w.heap.size+1+1,1,none⟩) (by (try simp) <;> omega) _).setCell (p:=⟨w.heap.size+1+1,2,none⟩) (by (try simp) <;> omega) _
 ·have h0':(k==0)=false:=beq_eq_false_iff_ne.2 h0
  rw [h0'] at hth
  rw [Qde hth] at HF
  clear hth
  go_enter Tryz.func95,Tryz.ntmps95
  go_wp2_with fail
  refine HF.out.mono ?_
  rintro e w9 ⟨rfl,rfl⟩
  go_wp2
  refine bodyPost_ret (v:=.tuple #[plv key (.slice o l.length cap) (.slice oR nR cR),.bool false]) (by simp [results,Tryz.results95,go_sem,r0,r1,r2]) rfl ⟨rfl, ?_⟩
  exact ((HB.out.setCell (p:=⟨w.heap.size+1+1,0,none⟩) (by (try simp) <;> omega) _).setCell (p:=⟨w.heap.size+1+1,1,none⟩) (by (try simp) <;> omega) _).setCell (p:=⟨w.heap.size+1+1,2,none⟩) (by (try simp) <;> omega) _
theorem Q88 (key:Int) (o:Option Addr) (cap:Nat) (l:List Bk) (oR:Option Addr) (cR:Nat) (hsR:List Hd) (k i g:Int) (m:List Bk) (w:World) (hk:Q1C key=true) (hl:Q0a l=true) (hc:Q0E k i g=true) (hm:doL l k i g=some m) (hlen:l.length≤100) (hR:RdK w.heap.size w o l) (hG:RdL Q0C w.heap.size w oR hsR) (hnR:oR=none→cR=0) (hR3:hsR.length≤3):
  Calls Tryz.prog 95 #[plv key (.slice o l.length cap) (.slice oR hsR.length cR),cmd k i g] w fun e w'=> ∃o2 c2 oR2 n2 cR2 o3 c3 hs3,e=.returned (.tuple #[plv key (.slice o2 m.length c2) (.slice oR2 n2 cR2),.bool true])∧n2=(((o3,8,c3)::hsR).take 3).length∧Q1i w' w.heap.size (.slice o2 m.length c2) m∧ownL Q0C 51 w' w.heap.size (.slice oR2 n2 cR2) (((o3,8,c3)::hsR).take 3)∧ownL Q0C 47 w' w.heap.size (.slice o3 8 c3) hs3∧Tab (fun b=> Q0Z key b m) 8 w' w.heap.size hs3∧Below w.heap.size w w':=by
 by_cases h0:k=0
 ·subst h0
  exact (QeI key o cap l oR cR hsR i g m w hk hl hc hm hlen hR hG hnR hR3).mono (fun _ _ h=> h)
 ·exact (QcJ key o cap l oR cR hsR k i g (Q0d l i) m w hk hl hc hm hlen hR hG hnR hR3 h0 (beq_eq_false_iff_ne.2 h0) rfl).mono (fun _ _ h=> h)
theorem Q9A (key:Int) (w:World) (hk:Q1C key=true):
  Calls Tryz.prog 93 #[.int .i64 key] w fun e w'=> ∃g,e=.returned (plv key (.slice none 0 0) (.slice (some ⟨g,0,none⟩) 1 1))∧RingO w' w.heap.size (.slice (some ⟨g,0,none⟩) 1 1) (fun b=> Q0Z key b []) []∧Below w.heap.size w w':=by
 obtain ⟨W0,hW0⟩:∃W,(w.alloc (.cells #[.int .i64 0,.slice none 0 0,.slice none 0 0] 29))=W:=⟨_,rfl⟩
 have hb_W0:Below w.heap.size w W0:=by rw [←hW0];exact ((Below.refl _ _).alloc (Kaq _) _)
 have HB:=Q02 hb_W0;clear hb_W0
 have zr:w.heap.size < W0.heap.size:=by rw [←hW0];simp
 obtain ⟨r0,r1,r2⟩:=alc3v0v1 hW0;obtain ⟨fr0,fr1,fr2⟩:=alf3v0v1 hW0;have hz00:=zr
 have HT:=Q02 (Q1v key none 0 [] W0 (.inl rfl) (by simp) hk rfl)
 go_enter Tryz.func93,Tryz.ntmps93
 go_wp2_with fail
 refine (HT.out).mono ?_
 rintro e v1 ⟨o3,c3,hs3,rfl,ow3,tb3,hb⟩
 have hs1:=hb.size;have HX:=Q02 (And.intro ow3 tb3);clear ow3 tb3;replace r0:=bC hb r0 zr;replace r1:=bC hb r1 zr;replace r2:=bC hb r2 zr;replace fr0:=bF hb fr0 zr;replace fr1:=bF hb fr1 zr;replace fr2:=bF hb fr2 zr;replace zr:=Kbq zr hb.size;replace HB:=Q02 (HB.out.trans (hb.mono HB.out.size));clear hb
 have hbx:v1.heap.size+1=(v1.alloc (.cells #[.slice o3 8 c3] 51)).heap.size:=by simp
 have hne:v1.heap.size≠w.heap.size:=by omega
 have hne':w.heap.size≠v1.heap.size:=by omega
 obtain ⟨W2,hW2⟩:∃W,v1.alloc (.cells #[.slice o3 8 c3] 51)=W:=⟨_,rfl⟩
 have hb2:Below v1.heap.size v1 W2:=by rw [←hW2];exact (Below.refl _ _).alloc (Kaq _) _
 have HRI:Hid (RingO W2 (w.heap.size+1) (.slice (some ⟨v1.heap.size,0,none⟩) 1 1) (fun b=> Q0Z key b []) []):=⟨o3,c3,hs3,by rw [←hW2];exact Q04 (Q44 v1 o3 8 c3 _) (by omega),Q04 (Q03 HX.out.1 hb2) (by omega),Tab.mono (HX.out.2.kept hb2) (by omega)⟩
 have hs2:=hb2.size;replace r0:=bC hb2 r0 zr;replace r1:=bC hb2 r1 zr;replace r2:=bC hb2 r2 zr;replace fr0:=bF hb2 fr0 zr;replace fr1:=bF hb2 fr1 zr;replace fr2:=bF hb2 fr2 zr;have HB2:Hid (Below w.heap.size w W2):=HB.out.trans (hb2.mono HB.out.size)
 go_wp2
 refine bodyPost_ret (v:=plv key (.slice none 0 0) (.slice (some ⟨v1.heap.size,0,none⟩) 1 1)) (by simp [results,Tryz.results93,go_sem,r0,r1,r2]) rfl ⟨v1.heap.size,rfl, ?_, ?_⟩
 ·exact RingO.mono (((HRI.out.low (Nat.lt_succ_self _) 0 _).low (Nat.lt_succ_self _) 1 _).low (Nat.lt_succ_self _) 2 _) (Nat.le_succ _)
 ·exact ((HB2.out.setCell (p:=⟨w.heap.size,0,none⟩) (by (try simp) <;> omega) _).setCell (p:=⟨w.heap.size,1,none⟩) (by (try simp) <;> omega) _).setCell (p:=⟨w.heap.size,2,none⟩) (by (try simp) <;> omega) _
structure PBox (w:World) (base B:Nat) (key:Int) (l:List Bk) (hs:List Hd) (o:Option Addr) (c:Nat) (oR:Option Addr) (cR:Nat):Prop where
 box:w.heap[B]? =some (.cells #[.int .i64 key,.slice o l.length c,.slice oR hs.length cR] 29 (0,0))
 backs:Q1i w base (.slice o l.length c) l
 ring:ownL Q0C 51 w base (.slice oR hs.length cR) hs
theorem PBox.set {w:World} {base B:Nat} {key:Int} {l:List Bk} {hs:List Hd} {o oR:Option Addr} {c n cR:Nat} {z:Array Value} (hB:w.heap[B]? =some (.cells z 29 (0,0))) (hz:z.size=3) (h1:Q1i w base (.slice o l.length c) l) (h2:ownL Q0C 51 w base (.slice oR n cR) hs) (hn:n=hs.length):PBox (setP w B (.int .i64 key) (.slice o l.length c) (.slice oR n cR)) base B key l hs o c oR cR:=by
 subst hn;have b1:=Q06 hB 0 (.int .i64 key);have b2:=Q06 b1 1 (.slice o l.length c);have b3:=Q06 b2 2 (.slice oR hs.length cR)
 refine ⟨?_,Q0o (Q0o (Q0o h1 hB Q7p 0 _) b1 Q7p 1 _) b2 Q7p 2 _,Q0o (Q0o (Q0o h2 hB Q9a 0 _) b1 Q9a 1 _) b2 Q9a 2 _⟩
 rw [b3]
 match z,hz with
 |⟨[x,y,u]⟩,_=> rfl
theorem Qia {w:World} {base:Nat} {o:Option Addr} {n c:Nat} {hs:List Hd} (h:ownL Q0C 51 w base (.slice o n c) hs):o=none→c=0:=fun e=> (InRow.cap (InRow.of h)) n c (by rw [e])
theorem Q0A {C:Nat} {w W:World} {B:Nat} (h:Below C w W) (hB:C≤B) (x y z:Value):Below C w (setP W B x y z):=((h.setCell (p:=⟨B,0,none⟩) hB _).setCell (p:=⟨B,1,none⟩) hB _).setCell (p:=⟨B,2,none⟩) hB _
def PTabs (w:World) (base:Nat) (key:Int) (hs:List Hd) (R:List (List Bk)):Prop:=hs.length=R.length∧∀i,i < R.length→∃o3 c3 hs8,hs.getD i (none,0,0)=(o3,8,c3)∧ownL Q0C 47 w base (.slice o3 8 c3) hs8∧Tab (fun b=> Q0Z key b (R.getD i [])) 8 w base hs8
theorem PTabs.kept {w w':World} {base:Nat} {key:Int} {hs:List Hd} {R:List (List Bk)} (h:PTabs w base key hs R) (hb:Below w.heap.size w w'):PTabs w' base key hs R:=
 ⟨h.1,fun i hi=> by obtain ⟨o3,c3,hs8,e,h1,h2⟩:=h.2 i hi;exact ⟨o3,c3,hs8,e,Q03 h1 hb,h2.kept hb⟩⟩
theorem PTabs.putB {w:World} {base:Nat} {key:Int} {hs:List Hd} {R:List (List Bk)} {B:Nat} {c:Array Value} (h:PTabs w base key hs R) (hB:w.heap[B]? =some (.cells c 29 (0,0))) (j:Nat) (u:Value):PTabs (w.setCell ⟨B,j,none⟩ u) base key hs R:=
 ⟨h.1,fun i hi=> by obtain ⟨o3,c3,hs8,e,h1,h2⟩:=h.2 i hi;exact ⟨o3,c3,hs8,e,Q0o h1 hB QhM j u,h2.grown (Q0D w B j u) (fun q hq=> Q1P (h2.row q hq) hB Qi2)⟩⟩
theorem PTabs.setP {w:World} {base:Nat} {key:Int} {hs:List Hd} {R:List (List Bk)} {B:Nat} {c:Array Value} (h:PTabs w base key hs R) (hB:w.heap[B]? =some (.cells c 29 (0,0))) (x y z:Value):PTabs (Go.Proofs.YtpneolgdghbinaaGreat.setP w B x y z) base key hs R:=
 ((h.putB hB 0 x).putB (Q06 hB 0 x) 1 y).putB (Q06 (Q06 hB 0 x) 1 y) 2 z
theorem PTabs.low {w:World} {base:Nat} {key:Int} {hs:List Hd} {R:List (List Bk)} {B:Nat} (h:PTabs w base key hs R) (hB:B < base) (j:Nat) (u:Value):PTabs (w.setCell ⟨B,j,none⟩ u) base key hs R:=
 ⟨h.1,fun i hi=> by
  obtain ⟨o3,c3,hs8,e,h1,h2⟩:=h.2 i hi
  refine ⟨o3,c3,hs8,e,Q0k h1 hB j u,h2.grown (Q0D w B j u) (fun q hq=> ?_)⟩
  cases hob:(hv hs8 q).ownBlock with
  |none=> exact .inl rfl
  |some b=> exact .inr (fun e=> by have:=((h2.row q hq).lt b hob).1;injection e with e;omega)⟩
theorem PTabs.mono {w:World} {base b2:Nat} {key:Int} {hs:List Hd} {R:List (List Bk)} (h:PTabs w base key hs R) (hb:b2≤base):PTabs w b2 key hs R:=
 ⟨h.1,fun i hi=> by obtain ⟨o3,c3,hs8,e,h1,h2⟩:=h.2 i hi;exact ⟨o3,c3,hs8,e,Q04 h1 hb,Tab.mono h2 hb⟩⟩
theorem PTabs.cons {w:World} {base:Nat} {key:Int} {hs hs8:List Hd} {R:List (List Bk)} {m:List Bk} {o3:Option Addr} {c3:Nat} (h:PTabs w base key hs R) (h1:ownL Q0C 47 w base (.slice o3 8 c3) hs8) (h2:Tab (fun b=> Q0Z key b m) 8 w base hs8):PTabs w base key ((o3,8,c3)::hs) (m::R):=
 ⟨by simp [h.1],fun i hi=> by
  cases i with
  |zero=> exact ⟨o3,c3,hs8,rfl,h1,h2⟩
  |succ i=> simpa using h.2 i (by simpa using hi)⟩
theorem PTabs.take {w:World} {base:Nat} {key:Int} {hs:List Hd} {R:List (List Bk)} (n:Nat) (h:PTabs w base key hs R):PTabs w base key (hs.take n) (R.take n):=
 ⟨by simp [h.1],fun i hi=> by
  have h1:i < n:=by simp at hi;omega
  have h2:i < R.length:=by simp at hi;omega
  have e1:(hs.take n).getD i (none,0,0)=hs.getD i (none,0,0):=by simp [List.getD_eq_getElem?_getD,List.getElem?_take,h1]
  have e2:(R.take n).getD i []=R.getD i []:=by simp [List.getD_eq_getElem?_getD,List.getElem?_take,h1]
  rw [e1,e2];exact h.2 i h2⟩
theorem Qcb {w x:World} {base b2:Nat} {key:Int} {hs hs8:List Hd} {R:List (List Bk)} {m:List Bk} {o3:Option Addr} {c3:Nat} (h:PTabs w base key hs R) (hb:Below w.heap.size w x) (h1:ownL Q0C 47 x b2 (.slice o3 8 c3) hs8) (h2:Tab (fun b=> Q0Z key b m) 8 x b2 hs8) (hle:base≤b2):PTabs x base key (((o3,8,c3)::hs).take 3) ((m::R).take 3):=
 ((h.kept hb).cons (Q04 h1 hle) (Tab.mono h2 hle)).take 3
def Q1f (cs:List Cd):Nat→List (List Bk)
 |0=> [[]]
 |t+1=> (Q0e cs (t+1)::Q1f cs t).take 3
theorem Q5Q {cs:List Cd} {t:Nat} (h:(Q1c cs cs.length).isSome=true) (ht:t≤cs.length):∃l,Q1c cs t=some l:=by
 cases hr:Q1c cs t with
 |some l=> exact ⟨l,rfl⟩
 |none=> rw [Q7Y hr ht] at h;cases h
theorem Qcw {cs:List Cd} {t:Nat} {l:List Bk} (h:(Q1c cs cs.length).isSome=true) (ht:t < cs.length) (hl:Q1c cs t=some l):∃m,Q0E (cs.getD t (0,0,0)).1 (cs.getD t (0,0,0)).2.1 (cs.getD t (0,0,0)).2.2=true∧doL l (cs.getD t (0,0,0)).1 (cs.getD t (0,0,0)).2.1 (cs.getD t (0,0,0)).2.2=some m∧Q1c cs (t+1)=some m:=by
 obtain ⟨m,hm⟩:=Q5Q h (show t+1≤cs.length by omega)
 have hs:=Q37 ht
 rw [hm,hl] at hs
 simp only [Q6b,Option.bind_some] at hs
 split at hs
 ·next hc=> exact ⟨m,hc,hs.symm,hm⟩
 ·cases hs
theorem Q7m (key:Int) (b off cap:Nat) (cs:List Cd) (w:World) (hbl:cs.length≠0→b < w.heap.size) (hcell:∀i,i < cs.length→∀j,j < Q3N.k→w.cell? ⟨b,off+i * Q3N.k+j,none⟩=(Q3N.cs (cs.getD i Q3N.d))[j]?) (hk:Q1C key=true) (hl:cs.length≤100) (hrun:(Q1c cs cs.length).isSome=true) (ob:Option Addr) (hob:cs.length≠0→ob=some ⟨b,off,none⟩):
  Calls Tryz.prog 43 #[.int .i64 key,.slice ob cs.length cap] w fun e w'=> ∃o c oR cR hs,e=.returned (plv key (.slice o (Q0e cs cs.length).length c) (.slice oR hs.length cR))∧Q1i w' w.heap.size (.slice o (Q0e cs cs.length).length c) (Q0e cs cs.length)∧ownL Q0C 51 w' w.heap.size (.slice oR hs.length cR) hs∧PTabs w' w.heap.size key hs (Q1f cs cs.length)∧hs.length≤3∧Below w.heap.size w w':=by
 have HC:=Q02 hcell;have HOB:=Q02 hob;have HBL:=Q02 hbl;have HN:=Q02 hl;have HRUN:=Q02 hrun;clear hcell hob hbl hrun;obtain ⟨W0,hW0⟩:∃W,(w.alloc (.cells #[.int .i64 0,.slice none 0 0,.slice none 0 0] 29))=W:=⟨_,rfl⟩
 have hb_W0:Below w.heap.size w W0:=by rw [←hW0];exact ((Below.refl _ _).alloc (Kaq _) _)
 have HB:=Q02 hb_W0;clear hb_W0
 have zr:w.heap.size < W0.heap.size:=by rw [←hW0];simp
 obtain ⟨r0,r1,r2⟩:=alc3v0v1 hW0;obtain ⟨fr0,fr1,fr2⟩:=alf3v0v1 hW0;have hz0:=zr;have HL:=Q02 (Q9A key W0 hk)
 go_enter Tryz.func43,Tryz.ntmps43
 go_wp2_with fail
 refine (HL.out).mono ?_
 rintro e v1 ⟨gR,rfl,hring,hb⟩
 have HRG:=Q02 hring;have hs1:=hb.size;clear hring;replace r0:=bC hb r0 zr;replace r1:=bC hb r1 zr;replace r2:=bC hb r2 zr;replace fr0:=bF hb fr0 zr;replace fr1:=bF hb fr1 zr;replace fr2:=bF hb fr2 zr;replace zr:=Kbq zr hb.size;replace HB:=Q02 (HB.out.trans (hb.mono HB.out.size));clear hb;have r0v:=r0;have r1v:=r1;have r2v:=r2;have f0v:=fr0;have f1v:=fr1;have f2v:=fr2;have zrv:=zr;have HB1:=HB;obtain ⟨W1,hW1⟩:∃W,(v1.alloc (.cells #[.int .i64 key,.slice none 0 0,.slice (some ⟨gR,0,none⟩) 1 1] 29))=W:=⟨_,rfl⟩
 have hb_W1:Below v1.heap.size v1 W1:=by rw [←hW1];exact ((Below.refl _ _).alloc (Kaq _) _)
 replace r0:=bC hb_W1 r0 zr;replace r1:=bC hb_W1 r1 zr;replace r2:=bC hb_W1 r2 zr;replace fr0:=bF hb_W1 fr0 zr;replace fr1:=bF hb_W1 fr1 zr;replace fr2:=bF hb_W1 fr2 zr;replace zr:=Kbq zr hb_W1.size;replace HB:=Q02 (HB.out.trans (hb_W1.mono HB.out.size));clear hb_W1
 have zp:v1.heap.size < W1.heap.size:=by rw [←hW1];simp
 obtain ⟨p0,p1,p2⟩:=alc3v0v1 hW1;obtain ⟨o3,c3,hs3,rg1,rg2,rg3⟩:=HRG.out
 have hb1:Below v1.heap.size v1 W1:=by rw [←hW1];exact (Below.refl _ _).alloc (Kaq _) _
 have HP:Hid (PBox W1 W0.heap.size v1.heap.size key [] [(o3,8,c3)] none 0 (some ⟨gR,0,none⟩) 1):=⟨by rw [←hW1];exact World.alloc_heap_new v1 _,World.ownsRow_nil _ _ _ _,Q03 rg1 hb1⟩
 have HPT:Hid (PTabs W1 W0.heap.size key [(o3,8,c3)] (Q1f cs 0)):=(PTabs.cons (R:=[]) (hs:=[]) ⟨rfl,fun i hi=> absurd hi (Nat.not_lt_zero _)⟩ rg2 rg3).kept hb1
 clear rg1 rg2 rg3 HRG hb1
 go_wp2
 go_loopw [6] (fun iv wr=> ∃(t:Nat) (l:List Bk) (hs:List Hd) (o:Option Addr) (c:Nat) (oR:Option Addr) (cR:Nat),t≤cs.length∧iv=.int .i64 (t:Int)∧Hid (PBox wr W0.heap.size v1.heap.size key l hs o c oR cR)∧Hid (PTabs wr W0.heap.size key hs (Q1f cs t))∧Hid (Q1c cs t=some l)∧Hid (hs.length≤3)∧Hid (Below v1.heap.size v1 wr))
  (fun iv _=> cs.length - (intOf iv).toNat)
 case atStart=> exact ⟨0,[],_,_,_,_,_,Kcq _,rfl,HP.out,HPT.out,rfl,(Nat.le_of_ble_eq_true rfl),by rw [←hW1];exact (Below.refl _ _).alloc (Kaq _) _⟩
 case round=>
  obtain ⟨t,l,hs,o,c,oR,cR,htl,rfl,HPB,HPTB,HRT,HS3,HBR⟩:=hrel;have hv1:=HBR.out.size;clear r0 r1 r2 fr0 fr1 fr2 zr p0 p1 p2 zp hW0 hW1 HP HPT HB;have HBB:Hid (Below w.heap.size w wr):=HB1.out.trans (HBR.out.mono HB1.out.size)
  have hpz:v1.heap.size < wr.heap.size:=(Array.getElem?_eq_some_iff.1 HPB.out.box).1
  by_cases hlt:t < cs.length
  ·skip
   have hlt':(t:Int) < (cs.length:Int):=by omega
   have ht0:(0:Int)≤(t:Int):=by omega
   have hob:=HOB.out (by omega)
   have hbl:=HBL.out (by omega)
   subst hob
   obtain ⟨hbo,hll⟩:=Q5g t l (by omega) HRT.out
   obtain ⟨m,hc,hdo,hnx⟩:=Qcw HRUN.out hlt HRT.out;obtain ⟨c0,c1,c2⟩:=RdL.cmd (C:=w.heap.size) HC.out t hlt;replace c0:=(HBB.out.cell (p:=⟨b,off+t * 3,none⟩) hbl).trans c0;replace c1:=(HBB.out.cell (p:=⟨b,off+t * 3+1,none⟩) hbl).trans c1;replace c2:=(HBB.out.cell (p:=⟨b,off+t * 3+2,none⟩) hbl).trans c2;obtain ⟨x,y,u,hxyu⟩:∃x y u,cs.getD t (0,0,0)=(x,y,u):=⟨_,_,_,rfl⟩
   rw [hxyu] at c0 c1 c2 hc hdo
   dsimp only at c0 c1 c2 hc hdo
   clear hxyu;have HNX:=Q02 hnx
   have HRN:=Q02 (show Q1f cs (t+1)=(m::Q1f cs t).take 3 by rw [Q1f];unfold Q0e;rw [hnx];rfl)
   clear hnx;have hs3:=HS3.out
   have hbz:b < wr.heap.size:=by have:=HBB.out.size;omega
   have hbp:b < v1.heap.size:=by have:=HB1.out.size;omega
   have HRB:=Q02 (ownL.rds (L:=Q12) HPB.out.backs);have HRR:=Q02 (ownL.rds (L:=Q0C) HPB.out.ring);have hcr:=Qia HPB.out.ring
   have HY:=Q02 (fun W (hb:Below wr.heap.size wr W)=> Q88 key o c l oR cR hs x y u m W hk hbo hc hdo (by have:=HN.out;omega) ((HRB.out.kept hb (Kaq _)).le hb.size) ((HRR.out.kept hb (Kaq _)).le hb.size) hcr hs3)
   clear hc hdo hcr HRB HRR;have p0:wr.cell? ⟨v1.heap.size,0,none⟩=some (.int .i64 key):=Q00 HPB.out.box 0 _ rfl;have p1:wr.cell? ⟨v1.heap.size,1,none⟩=some (.slice o l.length c):=Q00 HPB.out.box 1 _ rfl;have p2:wr.cell? ⟨v1.heap.size,2,none⟩=some (.slice oR hs.length cR):=Q00 HPB.out.box 2 _ rfl
   have hW0v:W0.heap.size≤wr.heap.size:=by omega
   go_wp2
   go_region_with (first|(go_at_call 95;have hc_:=HY.out wr.drew (Below.drew (Below.refl _ _));with_reducible refine hc_.mono ?_;clear hc_;rintro e x0 ⟨o2,d2,oR2,n2,dR2,o3,d3,hs3',rfl,hn2,ow2,owR,ow3,tb3,hb⟩;have hp0:Below wr.heap.size wr x0:=Below.trans (show Below wr.heap.size wr wr.drew from Below.drew (Below.refl _ _)) (hb.mono (by simp));have sp0:=hp0.size;have ow2:=Q04 ow2 (show W0.heap.size≤_ by (try simp) <;> omega);have owR:=Q04 owR (show W0.heap.size≤_ by (try simp) <;> omega);have pt:=Qcb HPTB.out hp0 ow3 tb3 (show W0.heap.size≤_ by (try simp) <;> omega);rw [←HRN.out] at pt;have hl3:=List.length_take_le 3 ((o3,8,d3)::hs);generalize List.take 3 ((o3,8,d3)::hs)=hs2 at hn2 owR hl3 pt;subst hn2;have k0:=bC hp0 c0 hbz;have k1:=bC hp0 c1 hbz;have k2:=bC hp0 c2 hbz;have hbx:=(hp0.block v1.heap.size hpz).trans HPB.out.box;have pc0:x0.cell? ⟨v1.heap.size,0,none⟩=some (.int .i64 key):=Q00 hbx 0 _ rfl;have pf0:=Q01 hbx 0;have pc1:x0.cell? ⟨v1.heap.size,1,none⟩=some (.slice o l.length c):=Q00 hbx 1 _ rfl;have pf1:=Q01 hbx 1;have pc2:x0.cell? ⟨v1.heap.size,2,none⟩=some (.slice oR hs.length cR):=Q00 hbx 2 _ rfl;have pf2:=Q01 hbx 2;have s0:(((x0.setCell ⟨v1.heap.size,0,none⟩ (.int .i64 key)).setCell ⟨v1.heap.size,1,none⟩ (.slice o2 m.length d2)).setCell ⟨v1.heap.size,2,none⟩ (.slice oR2 hs2.length dR2)).cell? ⟨b,off+t * 3,none⟩=some (.int .i64 x):=Q08 k0 hbp;have s1:(((x0.setCell ⟨v1.heap.size,0,none⟩ (.int .i64 key)).setCell ⟨v1.heap.size,1,none⟩ (.slice o2 m.length d2)).setCell ⟨v1.heap.size,2,none⟩ (.slice oR2 hs2.length dR2)).cell? ⟨b,off+t * 3+1,none⟩=some (.int .i64 y):=Q08 k1 hbp;have s2:(((x0.setCell ⟨v1.heap.size,0,none⟩ (.int .i64 key)).setCell ⟨v1.heap.size,1,none⟩ (.slice o2 m.length d2)).setCell ⟨v1.heap.size,2,none⟩ (.slice oR2 hs2.length dR2)).cell? ⟨b,off+t * 3+2,none⟩=some (.int .i64 u):=Q08 k2 hbp;have HPN:=Q02 (PBox.set (key:=key) hbx rfl ow2 owR rfl);have HPTN:=Q02 (PTabs.setP pt hbx (.int .i64 key) (.slice o2 m.length d2) (.slice oR2 hs2.length dR2));have HL3:=Q02 hl3;have HP0:=Q02 hp0;clear hb ow2 owR ow3 tb3 pt hl3 hp0 hbx))
   all_goals (have HBN:=Q02 (Q0A (HBR.out.trans (HP0.out.mono hv1)) (Kaq _) (.int .i64 key) (.slice o2 m.length d2) (.slice oR2 hs2.length dR2));go_wp2;go_roundw;(case rel=> exact ⟨t+1,m,hs2,o2,d2,oR2,dR2,by omega,by go_num,HPN.out,HPTN.out,HNX.out,HL3.out,HBN.out⟩);(case measure=> (simp [intOf];omega)))
  ·have e:t=cs.length:=by omega
   subst e
   have hlz:¬((cs.length:Int) < (cs.length:Int)):=by omega
   have hsv:Q0e cs cs.length=l:=by unfold Q0e;rw [HRT.out];rfl
   have HSV:=Q02 hsv;clear hsv;have p0:wr.cell? ⟨v1.heap.size,0,none⟩=some (.int .i64 key):=Q00 HPB.out.box 0 _ rfl;have p1:wr.cell? ⟨v1.heap.size,1,none⟩=some (.slice o l.length c):=Q00 HPB.out.box 1 _ rfl;have p2:wr.cell? ⟨v1.heap.size,2,none⟩=some (.slice oR hs.length cR):=Q00 HPB.out.box 2 _ rfl;have q0:=bC HBR.out r0v zrv;have fq0:=bF HBR.out f0v zrv;have q1:=bC HBR.out r1v zrv;have fq1:=bF HBR.out f1v zrv;have q2:=bC HBR.out r2v zrv;have fq2:=bF HBR.out f2v zrv
   go_wp2
   refine bodyPost_ret (v:=plv key (.slice o l.length c) (.slice oR hs.length cR)) (by simp [results,Tryz.results43,go_sem,q0,q1,q2]) rfl ⟨o,c,oR,cR,hs,by rw [HSV.out], ?_, ?_, ?_,HS3.out,Q0A HBB.out (Kaq _) _ _ _⟩
   ·rw [HSV.out];exact Q04 (Q0k (Q0k (Q0k HPB.out.backs hz0 0 _) hz0 1 _) hz0 2 _) (by omega)
   ·exact Q04 (Q0k (Q0k (Q0k HPB.out.ring hz0 0 _) hz0 1 _) hz0 2 _) (by omega)
   ·exact PTabs.mono (((HPTB.out.low hz0 0 _).low hz0 1 _).low hz0 2 _) (by omega)
theorem Qe8 {α:Type} {L:Lay α} (w:World) (e:TypeId):ownL L e (w.alloc (.cells #[] e)) w.heap.size (.slice (some ⟨w.heap.size,0,none⟩) 0 0) ([]:List α):=Q3d w e
def jm0:Jm:=⟨0,[],0⟩
theorem Q0Q {key:Int} {cs:List Cd} {safe:Int} (h:Q0p key cs safe=true):Q1C key=true∧cs.length≤100∧0≤safe∧safe≤(cs.length:Int):=by
 unfold Q0p at h
 simp only [Bool.and_eq_true,decide_eq_true_eq] at h
 exact ⟨h.1.1.1.1,h.1.1.1.2,h.1.1.2,h.1.2⟩
theorem Qc2 (key safe:Int) (o:Option Addr) (cap:Nat) (l:List Cd) (n:Nat) (hnl:n=l.length) (w:World) (hR:RdC w.heap.size w o l) (hn:o=none→cap=0) (hl:l.length≤1048576):
  Calls Tryz.prog 169 #[jrn key (.slice o n cap) safe] w fun e w'=> ∃o2 c2,e=.returned (jrn key (.slice o2 n c2) safe)∧Qbr w' w.heap.size (.slice o2 n c2) l∧Below w.heap.size w w':=by
 obtain ⟨W0,hW0⟩:∃W,((w.alloc (.cells #[.int .i64 key,.slice o n cap,.int .i64 safe] 25)).alloc (.cells #[.int .i64 0,.slice none 0 0,.int .i64 0] 25))=W:=⟨_,rfl⟩
 have hb_W0:Below w.heap.size w W0:=by rw [←hW0];exact (((Below.refl _ _).alloc (Kaq _) _).alloc (by simp <;> omega) _)
 have HB:=Q02 hb_W0;clear hb_W0
 have zz:w.heap.size < W0.heap.size:=by rw [←hW0];simp <;> omega
 obtain ⟨z0,z1,z2⟩:=alc3v0v2 hW0
 have zr:w.heap.size+1 < W0.heap.size:=by rw [←hW0];simp
 obtain ⟨r0,r1,r2⟩:=alc3v1v2 hW0;obtain ⟨fr0,fr1,fr2⟩:=alf3v1v2 hW0;have HR:=Q02 (hR.kept HB.out (Kaq _));have HNL:=Q02 hnl;have hzr:=zr;clear hR hnl
 go_enter Tryz.func169,Tryz.ntmps169
 go_wp2
 go_region_held3 (fun w'=> w'.cell? ⟨w.heap.size,0,none⟩=some (.int .i64 key)∧w'.cell? ⟨w.heap.size,1,none⟩=some (.slice o n cap)∧w'.cell? ⟨w.heap.size,2,none⟩=some (.int .i64 safe)) (first|with_reducible exact ⟨k0,k1,k2⟩|with_reducible exact ⟨z0,z1,z2⟩|with_reducible exact ⟨Q08 k0 (Nat.lt_succ_self _),Q08 k1 (Nat.lt_succ_self _),Q08 k2 (Nat.lt_succ_self _)⟩|go_keep) (first|(have own_:ownL Q3N 77 (W0.alloc (.cells #[] 77)).drew W0.heap.size (.slice (some ⟨W0.heap.size,0,none⟩) 0 0) ([]:List Cd):=Qe8 W0 _;have hbv:Below W0.heap.size W0 (W0.alloc (.cells #[] 77)).drew:=Below.drew ((Below.refl _ _).alloc (Kaq _) _);refine Q0n Qc8 rfl _ _ rfl W0.heap.size (.slice (some ⟨W0.heap.size,0,none⟩) 0 0) ([]:List Cd) rfl own_ o cap w.heap.size l n HNL.out rfl hn (HR.out.kept hbv (by omega)) (by simp;omega) (by (try simp) <;> omega) ?_;intro v8 w8 ho8 hg8 hn8;have hp8:Below W0.heap.size W0 w8:=hbv.grown hg8 (by (try simp) <;> omega) (fun k h=> by simp [Value.ownBlock] at h;omega);have sp8:=hp8.size;obtain ⟨o8,c8,e8,_⟩:=ownL.open (L:=Q3N) ho8;subst e8;have HO8:Hid (Qbr w8 W0.heap.size (.slice o8 l.length c8) l):=ho8;have k0:=bC hp8 z0 zz;have k1:=bC hp8 z1 zz;have k2:=bC hp8 z2 zz;have rr0:=bC hp8 r0 zr;have rr1:=bC hp8 r1 zr;have rr2:=bC hp8 r2 zr;have frr0:=bF hp8 fr0 zr;have frr1:=bF hp8 fr1 zr;have frr2:=bF hp8 fr2 zr;have HP8:=Q02 hp8;clear ho8 hg8 hn8 own_ hbv hp8))
 go_wp2
 have hnn:=HNL.out
 skip
 refine bodyPost_ret (v:=jrn key (.slice o8 l.length c8) safe) (by simp [results,Tryz.results169,go_sem,rr0,rr1,rr2]) rfl ⟨o8,c8,by rw [hnn], ?_,Q0A (HB.out.trans (HP8.out.mono HB.out.size)) (Nat.le_succ _) _ _ _⟩
 rw [hnn]
 exact Q04 (Q0k (Q0k (Q0k HO8.out hzr 0 _) hzr 1 _) hzr 2 _) (by omega)
theorem Q1G {w:World} {base s n:Nat} {v:Value} {xs:List Value} {B:Nat} {c:Array Value} (h:w.ownsRow base 77 s v n xs) (hB:w.heap[B]? =some (.cells c 25 (0,0))) (j:Nat) (u:Value):(w.setCell ⟨B,j,none⟩ u).ownsRow base 77 s v n xs:=
 World.ownsRow.kept h (Q0D w B j u) (Q1P h hB (by decide))
theorem Qca (o:Option Addr) (cap:Nat) (l:List Cd) (n:Nat) (hnl:n=l.length) (w:World) (hR:RdC w.heap.size w o l) (hn:o=none→cap=0) (hl:l.length≤1048576):
  Calls Tryz.prog 71 #[.slice o n cap] w fun e w'=> ∃o2 c2,e=.returned (.slice o2 n c2)∧Qbr w' w.heap.size (.slice o2 n c2) l∧Below w.heap.size w w':=by
 subst hnl
 refine (Q8d o cap l w hR hn hl).mono ?_
 rintro e w' ⟨v,rfl,h1,h2⟩
 obtain ⟨o2,c2,e2,_⟩:=ownL.open (L:=Q3N) h1;subst e2
 exact ⟨o2,c2,rfl,h1,h2⟩
def Q7v (key:Int) (l:List Cd) (k i g:Int):Bool:=(doL (Q0e l l.length) k i g).isSome && !decide (100≤l.length)
def Qev (m:Jm) (k i g:Int):Bool:=Q0p m.key m.l m.safe && Q0E k i g
def Q3e (m:Jm) (k i g:Int):Jm:=if Qev m k i g=true then (if Q7v m.key m.l k i g=true then ⟨m.key,m.l++[(k,i,g)],(m.l.length:Int)+1⟩ else m) else jm0
def Q3h (m:Jm) (k i g:Int):Bool:=Qev m k i g && Q7v m.key m.l k i g
theorem Qe0 {m:Jm} (k i g:Int) (h:Qc6 m):(Q3e m k i g).l.length≤1048576:=by
 unfold Q3e
 split
 ·split
  ·next hb hd=>
   unfold Qev at hb
   simp only [Bool.and_eq_true] at hb
   have:=(Q0Q hb.1).2.1
   simp;omega
  ·exact h
 ·decide
theorem Q8e {w:World} {x y z:Int} {T:TypeId}:RdC (w.alloc (.cells #[.int .i64 x,.int .i64 y,.int .i64 z] T)).heap.size (w.alloc (.cells #[.int .i64 x,.int .i64 y,.int .i64 z] T)) (some ⟨w.heap.size,0,none⟩) [(x,y,z)]:=
 .inr ⟨w.heap.size,0,rfl,by simp,fun i hi j hj=> by
  have e1:i=0:=by simpa using hi
  subst e1
  match j,hj with
  |0,_=> simp [Q3N]
  |1,_=> simp [Q3N]
  |2,_=> simp [Q3N]⟩
theorem Q1O {key:Int} {cs:List Cd} {safe:Int} (h:Q0p key cs safe=true):(Q1c cs cs.length).isSome=true:=by
 unfold Q0p at h
 simp only [Bool.and_eq_true] at h
 exact h.2
theorem Q3V {key:Int} {cs:List Cd} {safe:Int} (h:Q0p key cs safe=true):Q0a (Q0e cs cs.length)=true∧(Q0e cs cs.length).length≤100:=by
 obtain ⟨l,hl⟩:=Q5Q (Q1O h) (Kaq _);have h1:=Q5g cs.length l (Kaq _) hl;have h2:=(Q0Q h).2.1
 unfold Q0e
 rw [hl]
 exact ⟨h1.1,by simp only [Option.getD_some];omega⟩
theorem Q5Z (key:Int) (o:Option Addr) (cap:Nat) (cs:List Cd) (w:World) (hR:RdC w.heap.size w o cs) (hk:Q1C key=true) (hl:cs.length≤100) (hrun:(Q1c cs cs.length).isSome=true):
  Calls Tryz.prog 43 #[.int .i64 key,.slice o cs.length cap] w fun e w'=> ∃o c oR cR hs,e=.returned (plv key (.slice o (Q0e cs cs.length).length c) (.slice oR hs.length cR))∧Q1i w' w.heap.size (.slice o (Q0e cs cs.length).length c) (Q0e cs cs.length)∧ownL Q0C 51 w' w.heap.size (.slice oR hs.length cR) hs∧PTabs w' w.heap.size key hs (Q1f cs cs.length)∧hs.length≤3∧Below w.heap.size w w':=by
 rcases hR with hR|⟨b,off,rfl,hbl,hcell⟩
 ·subst hR
  exact Q7m key 0 0 cap [] w (fun h=> absurd rfl h) (fun i hi=> absurd hi (Nat.not_lt_zero _)) hk hl hrun o (fun h=> absurd rfl h)
 ·exact Q7m key b off cap cs w (fun _=> hbl) hcell hk hl hrun _ (fun _=> rfl)
theorem Q3I (key safe:Int) (o:Option Addr) (cap:Nat) (l:List Cd) (w:World) (hR:RdC w.heap.size w o l) (hn:o=none→cap=0) (hl:l.length≤1048576):
  Calls Tryz.prog 87 #[jrn key (.slice o l.length cap) safe] w fun e w'=> ∃o2 c2,e=.returned (jrn key (.slice o2 l.length c2) safe)∧Qbr w' w.heap.size (.slice o2 l.length c2) l∧Below w.heap.size w w':=by
 obtain ⟨W0,hW0⟩:∃W,((w.alloc (.cells #[.int .i64 key,.slice o l.length cap,.int .i64 safe] 25)).alloc (.cells #[.int .i64 0,.slice none 0 0,.int .i64 0] 25))=W:=⟨_,rfl⟩
 have hb_W0:Below w.heap.size w W0:=by rw [←hW0];exact (((Below.refl _ _).alloc (Kaq _) _).alloc (by simp <;> omega) _)
 have HB:=Q02 hb_W0;clear hb_W0
 have zz:w.heap.size < W0.heap.size:=by rw [←hW0];simp <;> omega
 obtain ⟨z0,z1,z2⟩:=alc3v0v2 hW0;obtain ⟨fz0,fz1,fz2⟩:=alf3v0v2 hW0
 have zr:w.heap.size+1 < W0.heap.size:=by rw [←hW0];simp
 obtain ⟨r0,r1,r2⟩:=alc3v1v2 hW0;obtain ⟨fr0,fr1,fr2⟩:=alf3v1v2 hW0;have hzr:=zr;have HCL:=Q02 (Qca o cap l l.length rfl W0 ((hR.kept HB.out (Kaq _)).le HB.out.size) hn hl);clear hR
 go_enter Tryz.func87,Tryz.ntmps87
 go_wp2_with fail
 refine (HCL.out).mono ?_
 rintro e v1 ⟨o2,c2,rfl,ow2,hb⟩
 have HO:=Q02 ow2;have hs1:=hb.size;clear ow2;replace z0:=bC hb z0 zz;replace z1:=bC hb z1 zz;replace z2:=bC hb z2 zz;replace fz0:=bF hb fz0 zz;replace fz1:=bF hb fz1 zz;replace fz2:=bF hb fz2 zz;replace zz:=Kbq zz hb.size;replace r0:=bC hb r0 zr;replace r1:=bC hb r1 zr;replace r2:=bC hb r2 zr;replace fr0:=bF hb fr0 zr;replace fr1:=bF hb fr1 zr;replace fr2:=bF hb fr2 zr;replace zr:=Kbq zr hb.size;replace HB:=Q02 (HB.out.trans (hb.mono HB.out.size));clear hb
 have hzz:w.heap.size < W0.heap.size:=by omega
 go_wp2
 refine bodyPost_ret (v:=jrn key (.slice o2 l.length c2) safe) (by simp [results,Tryz.results87,go_sem,r0,r1,r2]) rfl ⟨o2,c2,rfl,Q04 (Q0k (Q0k (Q0k (Q0k HO.out hzz 1 _) hzr 0 _) hzr 1 _) hzr 2 _) (by omega),Q0A (HB.out.setCell (p:=⟨w.heap.size,1,none⟩) (Kaq _) _) (Nat.le_succ _) _ _ _⟩
theorem Q9X (v:Value) (m:Jm) (k i g:Int) (w:World) (hR:RdJm w.heap.size w v m) (hcp:capJm v) (hf:Qc6 m):
  Calls Tryz.prog 124 #[v,cmd k i g] w fun e w'=> ∃v',e=.returned (.tuple #[v',.bool (Q3h m k i g)])∧InJm w.heap.size w'.heap.size w' v' (Q3e m k i g)∧Below w.heap.size w w':=by
 have hR0:=hR;obtain ⟨vl,rfl,⟨o,c,rfl,r⟩⟩:=hR0;have hcap:=hcp.one;clear hcp;obtain ⟨key,l,safe⟩:=m
 dsimp only at *
 have HNM:=Q02 (show Q3e ⟨key,l,safe⟩ k i g=if (Q0p key l safe && Q0E k i g)=true then (if Q7v key l k i g=true then ⟨key,l++[(k,i,g)],(l.length:Int)+1⟩ else ⟨key,l,safe⟩) else jm0 from rfl);have HNF:=Q02 (show Q3h ⟨key,l,safe⟩ k i g=((Q0p key l safe && Q0E k i g) && Q7v key l k i g) from rfl);have HND:=Q02 (show Q7v key l k i g=((doL (Q0e l l.length) k i g).isSome && !decide (100≤l.length)) from rfl)
 have HFA:=Q02 (fun h:Q0p key l safe=true=> And.intro (Q0Q h) (And.intro (Q1O h) (Q3V h)))
 unfold Qc6 at hf
 dsimp only at hf
 obtain ⟨W0,hW0⟩:∃W,(((w.alloc (.cells #[.int .i64 key,.slice o l.length c,.int .i64 safe] 25)).alloc (.cells #[.int .i64 k,.int .i64 i,.int .i64 g] 77)).alloc (.cells #[.int .i64 0,.slice none 0 0,.int .i64 0] 25))=W:=⟨_,rfl⟩
 have hb_W0:Below w.heap.size w W0:=by rw [←hW0];exact ((((Below.refl _ _).alloc (Kaq _) _).alloc (by simp <;> omega) _).alloc (by simp <;> omega) _)
 have HB:=Q02 hb_W0;clear hb_W0
 have zz:w.heap.size < W0.heap.size:=by rw [←hW0];simp <;> omega
 obtain ⟨z0,z1,z2⟩:=alc3v0v3 hW0
 have zu:w.heap.size+1 < W0.heap.size:=by rw [←hW0];simp <;> omega
 obtain ⟨u0,u1,u2⟩:=alc3v1v3 hW0
 have zr:w.heap.size+1+1 < W0.heap.size:=by rw [←hW0];simp
 obtain ⟨r0,r1,r2⟩:=alc3v2v3 hW0;obtain ⟨fr0,fr1,fr2⟩:=alf3v2v3 hW0;have hzr:=zr;have HTU:=Q02 (Q9d key safe o c l W0 ((r.kept HB.out (Kaq _)).le HB.out.size) hf)
 have HDE:=Q02 (fun W=> Q4j k i g W)
 have HRL:=Q02 r;clear r hR
 cases hj:Q0p key l safe with
 |false=>
  rw [hj] at HTU HNM HNF
  clear HFA hj;generalize Q0E k i g=ck at *
  go_enter Tryz.func124,Tryz.ntmps124
  go_wp2_with fail
  refine (HTU.out).mono ?_
  rintro e v1 ⟨v9,rfl,_,hb⟩
  replace z0:=bC hb z0 zz;replace z1:=bC hb z1 zz;replace z2:=bC hb z2 zz;replace zz:=Kbq zz hb.size;replace u0:=bC hb u0 zu;replace u1:=bC hb u1 zu;replace u2:=bC hb u2 zu;replace zu:=Kbq zu hb.size;replace r0:=bC hb r0 zr;replace r1:=bC hb r1 zr;replace r2:=bC hb r2 zr;replace fr0:=bF hb fr0 zr;replace fr1:=bF hb fr1 zr;replace fr2:=bF hb fr2 zr;replace zr:=Kbq zr hb.size;replace HB:=Q02 (HB.out.trans (hb.mono HB.out.size));clear hb
  go_wp2_with fail
  refine (HDE.out v1).mono ?_
  rintro e v2 ⟨rfl,hb⟩
  replace z0:=bC hb z0 zz;replace z1:=bC hb z1 zz;replace z2:=bC hb z2 zz;replace zz:=Kbq zz hb.size;replace u0:=bC hb u0 zu;replace u1:=bC hb u1 zu;replace u2:=bC hb u2 zu;replace zu:=Kbq zu hb.size;replace r0:=bC hb r0 zr;replace r1:=bC hb r1 zr;replace r2:=bC hb r2 zr;replace fr0:=bF hb fr0 zr;replace fr1:=bF hb fr1 zr;replace fr2:=bF hb fr2 zr;replace zr:=Kbq zr hb.size;replace HB:=Q02 (HB.out.trans (hb.mono HB.out.size));clear hb;generalize (if ck=true then Q84 k i g else .nilIface)=dv
  go_wp2
  refine bodyPost_ret (v:=.tuple #[jrn 0 (.slice none 0 0) 0,.bool false]) (by simp [results,Tryz.results124,go_sem,r0,r1,r2]) rfl ⟨jrn 0 (.slice none 0 0) 0,by rw [HNF.out];simp, ?_,Q0A HB.out (by omega) _ _ _⟩
  rw [HNM.out,if_neg (by simp)]
  exact ⟨_,rfl,World.ownsRow_nil _ _ _ _,fun b e=> by cases e⟩
 |true=>
  obtain ⟨⟨hk,hl,h0,h1⟩,hrun,hbo,hsl⟩:=HFA.out hj
  rw [hj] at HTU HNM HNF
  clear HFA hj
  cases hc:Q0E k i g with
  |false=>
   rw [hc] at HDE HNM HNF
   simp only [Bool.false_eq_true,if_false] at HDE
   go_enter Tryz.func124,Tryz.ntmps124
   go_wp2_with fail
   refine (HTU.out).mono ?_
   rintro e v1 ⟨v9,rfl,_,hb⟩
   replace z0:=bC hb z0 zz;replace z1:=bC hb z1 zz;replace z2:=bC hb z2 zz;replace zz:=Kbq zz hb.size;replace u0:=bC hb u0 zu;replace u1:=bC hb u1 zu;replace u2:=bC hb u2 zu;replace zu:=Kbq zu hb.size;replace r0:=bC hb r0 zr;replace r1:=bC hb r1 zr;replace r2:=bC hb r2 zr;replace fr0:=bF hb fr0 zr;replace fr1:=bF hb fr1 zr;replace fr2:=bF hb fr2 zr;replace zr:=Kbq zr hb.size;replace HB:=Q02 (HB.out.trans (hb.mono HB.out.size));clear hb
   go_wp2_with fail
   refine (HDE.out v1).mono ?_
   rintro e v2 ⟨rfl,hb⟩
   replace z0:=bC hb z0 zz;replace z1:=bC hb z1 zz;replace z2:=bC hb z2 zz;replace zz:=Kbq zz hb.size;replace u0:=bC hb u0 zu;replace u1:=bC hb u1 zu;replace u2:=bC hb u2 zu;replace zu:=Kbq zu hb.size;replace r0:=bC hb r0 zr;replace r1:=bC hb r1 zr;replace r2:=bC hb r2 zr;replace fr0:=bF hb fr0 zr;replace fr1:=bF hb fr1 zr;replace fr2:=bF hb fr2 zr;replace zr:=Kbq zr hb.size;replace HB:=Q02 (HB.out.trans (hb.mono HB.out.size));clear hb
   go_wp2
   refine bodyPost_ret (v:=.tuple #[jrn 0 (.slice none 0 0) 0,.bool false]) (by simp [results,Tryz.results124,go_sem,r0,r1,r2]) rfl ⟨jrn 0 (.slice none 0 0) 0,by rw [HNF.out];simp, ?_,Q0A HB.out (by omega) _ _ _⟩
   rw [HNM.out,if_neg (by simp)]
   exact ⟨_,rfl,World.ownsRow_nil _ _ _ _,fun b e=> by cases e⟩
  |true=>
   have HBA:=Q02 (fun o c W h1 h2=> Q32 o c (Q0e l l.length) k i g W h1 h2 (by omega) hc)
   rw [hc] at HDE HNM HNF
   simp only [if_true] at HDE
   generalize Q84 k i g=dv at *;obtain ⟨sv,hsv⟩:∃s,Q0e l l.length=s:=⟨_,rfl⟩
   rw [hsv] at HBA HND hbo hsl
   have HSV:=Q02 hsv;clear hc hsv
   go_enter Tryz.func124,Tryz.ntmps124
   go_wp2_with fail
   refine (HTU.out).mono ?_
   rintro e v1 ⟨v9,rfl,hown9,hb⟩
   obtain ⟨hs,ho9,hs9⟩:=hown9 (by simp)
   have HO9:=Q02 ho9;have HS9:=Q02 hs9;have hs1:=hb.size;clear hown9 ho9 hs9;replace z0:=bC hb z0 zz;replace z1:=bC hb z1 zz;replace z2:=bC hb z2 zz;replace zz:=Kbq zz hb.size;replace u0:=bC hb u0 zu;replace u1:=bC hb u1 zu;replace u2:=bC hb u2 zu;replace zu:=Kbq zu hb.size;replace r0:=bC hb r0 zr;replace r1:=bC hb r1 zr;replace r2:=bC hb r2 zr;replace fr0:=bF hb fr0 zr;replace fr1:=bF hb fr1 zr;replace fr2:=bF hb fr2 zr;replace zr:=Kbq zr hb.size;replace HB:=Q02 (HB.out.trans (hb.mono HB.out.size));clear hb;have HLN:=Q02 HS9.out.len
   obtain ⟨g9,c9,e9⟩:=Q2C HO9.out (by rw [HLN.out];omega)
   subst e9
   go_wp2_with fail
   refine (HDE.out v1).mono ?_
   rintro e v2 ⟨rfl,hb⟩
   have hs2:=hb.size;replace z0:=bC hb z0 zz;replace z1:=bC hb z1 zz;replace z2:=bC hb z2 zz;replace zz:=Kbq zz hb.size;replace u0:=bC hb u0 zu;replace u1:=bC hb u1 zu;replace u2:=bC hb u2 zu;replace zu:=Kbq zu hb.size;replace r0:=bC hb r0 zr;replace r1:=bC hb r1 zr;replace r2:=bC hb r2 zr;replace fr0:=bF hb fr0 zr;replace fr1:=bF hb fr1 zr;replace fr2:=bF hb fr2 zr;replace zr:=Kbq zr hb.size;replace HS9:=Q02 (HS9.out.kept hb);replace HO9:=Q02 (Q03 HO9.out hb);replace HB:=Q02 (HB.out.trans (hb.mono HB.out.size));clear hb
   have HCJ:=Q02 (Q3I key safe o c l v2 ((HRL.out.kept HB.out (Kaq _)).le HB.out.size) hcap hf)
   go_wp2_with fail
   refine (HCJ.out).mono ?_
   rintro e v3 ⟨o2,c2,rfl,ow2,hb⟩
   have HOX:=Q02 ow2;have hs3:=hb.size;clear ow2;replace z0:=bC hb z0 zz;replace z1:=bC hb z1 zz;replace z2:=bC hb z2 zz;replace zz:=Kbq zz hb.size;replace u0:=bC hb u0 zu;replace u1:=bC hb u1 zu;replace u2:=bC hb u2 zu;replace zu:=Kbq zu hb.size;replace r0:=bC hb r0 zr;replace r1:=bC hb r1 zr;replace r2:=bC hb r2 zr;replace fr0:=bF hb fr0 zr;replace fr1:=bF hb fr1 zr;replace fr2:=bF hb fr2 zr;replace zr:=Kbq zr hb.size;replace HS9:=Q02 (HS9.out.kept hb);replace HO9:=Q02 (Q03 HO9.out hb);replace HB:=Q02 (HB.out.trans (hb.mono HB.out.size));clear hb
   have HLTX:=Q02 (fun b (e:(Value.slice o2 l.length c2).ownBlock=some b)=> (HOX.out.lt b e).2)
   obtain ⟨W4,hW4⟩:∃W,(v3.alloc (.cells #[.int .i64 key,.slice o2 l.length c2,.int .i64 safe] 25))=W:=⟨_,rfl⟩
   have hb_W4:Below v3.heap.size v3 W4:=by rw [←hW4];exact ((Below.refl _ _).alloc (Kaq _) _)
   replace z0:=bC hb_W4 z0 zz;replace z1:=bC hb_W4 z1 zz;replace z2:=bC hb_W4 z2 zz;replace zz:=Kbq zz hb_W4.size;replace u0:=bC hb_W4 u0 zu;replace u1:=bC hb_W4 u1 zu;replace u2:=bC hb_W4 u2 zu;replace zu:=Kbq zu hb_W4.size;replace r0:=bC hb_W4 r0 zr;replace r1:=bC hb_W4 r1 zr;replace r2:=bC hb_W4 r2 zr;replace fr0:=bF hb_W4 fr0 zr;replace fr1:=bF hb_W4 fr1 zr;replace fr2:=bF hb_W4 fr2 zr;replace zr:=Kbq zr hb_W4.size;replace HS9:=Q02 (HS9.out.kept hb_W4);replace HO9:=Q02 (Q03 HO9.out hb_W4);replace HOX:=Q02 (Q03 HOX.out hb_W4);replace HB:=Q02 (HB.out.trans (hb_W4.mono HB.out.size))
   clear hb_W4
   have zx:v3.heap.size < W4.heap.size:=by rw [←hW4];simp
   obtain ⟨x0,x1,x2⟩:=alc3v0v1 hW4
   have hx4:W4.heap[v3.heap.size]? =some (.cells #[.int .i64 key,.slice o2 l.length c2,.int .i64 safe] 25 (0,0)):=by rw [←hW4];exact World.alloc_heap_new v3 _
   have hs4:v3.heap.size < W4.heap.size:=zx
   obtain ⟨o',c',e',hr'⟩:=ownL.open (L:=Q12) (HS9.out.row l.length (by omega))
   have hown:=HS9.out.row l.length (by omega)
   rw [HSV.out] at e' hr' hown
   rw [e'] at hown
   have hcl:=Q2I HO9.out l.length (by rw [HLN.out];omega)
   rw [e'] at hcl
   have hnk:(l.length:Int) < (hs.length:Int):=by have:=HLN.out;omega
   have HA2:=Q02 (HBA.out o' c' W4 hr' (Q54 hown));clear hr' hown e' HBA
   cases hdo:doL sv k i g with
   |none=>
    rw [hdo] at HA2 HND
    simp only [Option.isSome_none] at HA2
    have HNDl:=Q02 (show Q7v key l k i g=false by rw [HND.out];rfl)
    clear hdo
    go_wp2_with fail
    refine (HA2.out).mono ?_
    rintro e v4 ⟨v5,rfl,_,hb⟩
    have hs5:=hb.size;replace z0:=bC hb z0 zz;replace z1:=bC hb z1 zz;replace z2:=bC hb z2 zz;replace zz:=Kbq zz hb.size;replace u0:=bC hb u0 zu;replace u1:=bC hb u1 zu;replace u2:=bC hb u2 zu;replace zu:=Kbq zu hb.size;replace r0:=bC hb r0 zr;replace r1:=bC hb r1 zr;replace r2:=bC hb r2 zr;replace fr0:=bF hb fr0 zr;replace fr1:=bF hb fr1 zr;replace fr2:=bF hb fr2 zr;replace zr:=Kbq zr hb.size;replace x0:=bC hb x0 zx;replace x1:=bC hb x1 zx;replace x2:=bC hb x2 zx;replace zx:=Kbq zx hb.size;replace HS9:=Q02 (HS9.out.kept hb);replace HO9:=Q02 (Q03 HO9.out hb);replace HOX:=Q02 (Q03 HOX.out hb)
    replace HB:=Q02 (HB.out.trans (hb.mono HB.out.size));clear hb
    have hrb:w.heap.size+1+1 < v2.heap.size:=by omega
    go_wp2
    refine bodyPost_ret (v:=.tuple #[jrn key (.slice o2 l.length c2) safe,.bool false]) (by simp [results,Tryz.results124,go_sem,r0,r1,r2]) rfl ⟨jrn key (.slice o2 l.length c2) safe,by rw [HNF.out,HNDl.out];simp, ?_,Q0A HB.out (by omega) _ _ _⟩
    rw [HNM.out,if_pos (by simp),if_neg (by rw [HNDl.out];simp)]
    exact ⟨_,rfl,InRow.of (Q04 (Q0k (Q0k (Q0k HOX.out hrb 0 _) hrb 1 _) hrb 2 _) (by omega))⟩
   |some mm=>
    rw [hdo] at HA2 HND
    simp only [Option.isSome_some] at HA2
    clear hdo
    by_cases h100:l.length=100
    ·have HNDl:=Q02 (show Q7v key l k i g=false by rw [HND.out,h100];rfl)
     have h100':(l.length:Int)=100:=by omega
     have h100d:((l.length:Int)==100)=true:=beq_iff_eq.2 h100';clear h100 h100'
     go_wp2_with fail
     refine (HA2.out).mono ?_
     rintro e v4 ⟨v5,rfl,_,hb⟩
     have hs5:=hb.size;replace z0:=bC hb z0 zz;replace z1:=bC hb z1 zz;replace z2:=bC hb z2 zz;replace zz:=Kbq zz hb.size;replace u0:=bC hb u0 zu;replace u1:=bC hb u1 zu;replace u2:=bC hb u2 zu;replace zu:=Kbq zu hb.size;replace r0:=bC hb r0 zr;replace r1:=bC hb r1 zr;replace r2:=bC hb r2 zr;replace fr0:=bF hb fr0 zr;replace fr1:=bF hb fr1 zr;replace fr2:=bF hb fr2 zr;replace zr:=Kbq zr hb.size;replace x0:=bC hb x0 zx;replace x1:=bC hb x1 zx;replace x2:=bC hb x2 zx;replace zx:=Kbq zx hb.size;replace HS9:=Q02 (HS9.out.kept hb);replace HO9:=Q02 (Q03 HO9.out hb);replace HOX:=Q02 (Q03 HOX.out hb)
     replace HB:=Q02 (HB.out.trans (hb.mono HB.out.size));clear hb
     have hrb:w.heap.size+1+1 < v2.heap.size:=by omega
     go_wp2
     refine bodyPost_ret (v:=.tuple #[jrn key (.slice o2 l.length c2) safe,.bool false]) (by simp [results,Tryz.results124,go_sem,r0,r1,r2]) rfl ⟨jrn key (.slice o2 l.length c2) safe,by rw [HNF.out,HNDl.out];simp, ?_,Q0A HB.out (by omega) _ _ _⟩
     rw [HNM.out,if_pos (by simp),if_neg (by rw [HNDl.out];simp)]
     exact ⟨_,rfl,InRow.of (Q04 (Q0k (Q0k (Q0k HOX.out hrb 0 _) hrb 1 _) hrb 2 _) (by omega))⟩
    ·have HNDl:=Q02 (show Q7v key l k i g=true by rw [HND.out,decide_eq_false (by omega)];rfl)
     have h100d:((l.length:Int)==100)=false:=beq_eq_false_iff_ne.2 (by omega)
     go_wp2_with fail
     refine (HA2.out).mono ?_
     rintro e v4 ⟨v5,rfl,_,hb⟩
     have hs5:=hb.size;have hx5:=(hb.block _ (show _ < W4.heap.size from hs4)).trans hx4;replace z0:=bC hb z0 zz;replace z1:=bC hb z1 zz;replace z2:=bC hb z2 zz;replace zz:=Kbq zz hb.size;replace u0:=bC hb u0 zu;replace u1:=bC hb u1 zu;replace u2:=bC hb u2 zu;replace zu:=Kbq zu hb.size;replace r0:=bC hb r0 zr;replace r1:=bC hb r1 zr;replace r2:=bC hb r2 zr;replace fr0:=bF hb fr0 zr;replace fr1:=bF hb fr1 zr;replace fr2:=bF hb fr2 zr;replace zr:=Kbq zr hb.size;replace x0:=bC hb x0 zx;replace x1:=bC hb x1 zx;replace x2:=bC hb x2 zx;replace zx:=Kbq zx hb.size;replace HS9:=Q02 (HS9.out.kept hb)
     replace HO9:=Q02 (Q03 HO9.out hb);replace HOX:=Q02 (Q03 HOX.out hb);replace HB:=Q02 (HB.out.trans (hb.mono HB.out.size));clear hb
     have hrb:w.heap.size+1+1 < v2.heap.size:=by omega
     have hxb:=hx5
     go_wp2_with (at_builtin;refine Q07 Qc8 rfl (.tmp 53) (.tmp 55) rfl v2.heap.size _ l rfl (World.ownsRow.alloc HOX.out (.cells #[.int .i64 k,.int .i64 i,.int .i64 g] 77)) (some ⟨v4.heap.size,0,none⟩) 1 (v4.alloc (.cells #[.int .i64 k,.int .i64 i,.int .i64 g] 77)).heap.size [(k,i,g)] 1 rfl rfl (fun h=> by cases h) Q8e (by simp;omega) (by simp;omega) ?_)
     intro v6 w6 ho6 hg6 _
     obtain ⟨o6,c6,e6,_⟩:=ownL.open (L:=Q3N) ho6
     rw [show (l++[(k,i,g)]).length=l.length+1 by simp] at e6
     subst e6
     have hb6:Below v2.heap.size v4 w6:=((Below.refl v4.heap.size v4).alloc (Kaq _) (.cells #[.int .i64 k,.int .i64 i,.int .i64 g] 77)).mono (by omega)|>.grown hg6 (by simp;omega) (fun k h=> (HOX.out.lt k h).1)
     have hx6:w6.heap[v3.heap.size]? =some (.cells #[.int .i64 key,.slice o2 l.length c2,.int .i64 safe] 25 (0,0)):=(hg6.block _ (by have:=(Array.getElem?_eq_some_iff.1 hxb).1;simp;omega) (fun e=> by have:=HLTX.out _ e.symm;omega)).trans ((Below.heap_alloc _ _ _ (Array.getElem?_eq_some_iff.1 hxb).1).trans hxb)
     have HO6:Hid (Qbr w6 v2.heap.size (.slice o6 (l.length+1) c6) (l++[(k,i,g)])):=ho6;clear ho6 hg6
     replace r0:=bC hb6 r0 (show _ < _ by omega)
     replace fr0:=bF hb6 fr0 (show _ < _ by omega)
     replace r1:=bC hb6 r1 (show _ < _ by omega)
     replace fr1:=bF hb6 fr1 (show _ < _ by omega)
     replace r2:=bC hb6 r2 (show _ < _ by omega)
     replace fr2:=bF hb6 fr2 (show _ < _ by omega)
     have HB6:=Q02 (HB.out.trans (hb6.mono (by omega)))
     clear hb6 HB;obtain ⟨W7,hW7⟩:∃W,w6.setCell ⟨v3.heap.size,1,none⟩ (.slice o6 (l.length+1) c6)=W:=⟨_,rfl⟩
     have h7:W7.heap[v3.heap.size]? =some (.cells #[.int .i64 key,.slice o6 (l.length+1) c6,.int .i64 safe] 25 (0,0)):=by rw [←hW7];exact Q06 hx6 1 _
     obtain ⟨W8,hW8⟩:∃W,W7.setCell ⟨v3.heap.size,2,none⟩ (.int .i64 ((l.length:Int)+1))=W:=⟨_,rfl⟩
     have h8:W8.heap[v3.heap.size]? =some (.cells #[.int .i64 key,.slice o6 (l.length+1) c6,.int .i64 ((l.length:Int)+1)] 25 (0,0)):=by rw [←hW8];exact Q06 h7 2 _
     have a60:w6.cell? ⟨v3.heap.size,0,none⟩=some (.int .i64 key):=Q00 hx6 0 _ rfl;have g60:=Q01 hx6 0;have a61:w6.cell? ⟨v3.heap.size,1,none⟩=some (.slice o2 l.length c2):=Q00 hx6 1 _ rfl;have g61:=Q01 hx6 1;have a62:w6.cell? ⟨v3.heap.size,2,none⟩=some (.int .i64 safe):=Q00 hx6 2 _ rfl;have g62:=Q01 hx6 2;have a70:W7.cell? ⟨v3.heap.size,0,none⟩=some (.int .i64 key):=Q00 h7 0 _ rfl;have g70:=Q01 h7 0;have a71:W7.cell? ⟨v3.heap.size,1,none⟩=some (.slice o6 (l.length+1) c6):=Q00 h7 1 _ rfl;have g71:=Q01 h7 1;have a72:W7.cell? ⟨v3.heap.size,2,none⟩=some (.int .i64 safe):=Q00 h7 2 _ rfl
     have g72:=Q01 h7 2;have a80:W8.cell? ⟨v3.heap.size,0,none⟩=some (.int .i64 key):=Q00 h8 0 _ rfl;have a81:W8.cell? ⟨v3.heap.size,1,none⟩=some (.slice o6 (l.length+1) c6):=Q00 h8 1 _ rfl;have a82:W8.cell? ⟨v3.heap.size,2,none⟩=some (.int .i64 ((l.length:Int)+1)):=Q00 h8 2 _ rfl
     have hneB:w.heap.size+1+1≠v3.heap.size:=by omega
     have q80:W8.cell? ⟨w.heap.size+1+1,0,none⟩=some (.int .i64 0):=by rw [←hW8,←hW7];exact (Q1e hneB).trans ((Q1e hneB).trans r0)
     have p80:W8.frozen? ⟨w.heap.size+1+1,0,none⟩=false:=by rw [←hW8,←hW7];exact (Q0P hneB).trans ((Q0P hneB).trans fr0)
     have q81:W8.cell? ⟨w.heap.size+1+1,1,none⟩=some (.slice none 0 0):=by rw [←hW8,←hW7];exact (Q1e hneB).trans ((Q1e hneB).trans r1)
     have p81:W8.frozen? ⟨w.heap.size+1+1,1,none⟩=false:=by rw [←hW8,←hW7];exact (Q0P hneB).trans ((Q0P hneB).trans fr1)
     have q82:W8.cell? ⟨w.heap.size+1+1,2,none⟩=some (.int .i64 0):=by rw [←hW8,←hW7];exact (Q1e hneB).trans ((Q1e hneB).trans r2)
     have p82:W8.frozen? ⟨w.heap.size+1+1,2,none⟩=false:=by rw [←hW8,←hW7];exact (Q0P hneB).trans ((Q0P hneB).trans fr2)
     have HO8:Hid (Qbr W8 v2.heap.size (.slice o6 (l.length+1) c6) (l++[(k,i,g)])):=by rw [←hW8,←hW7];exact Q1G (Q1G HO6.out hx6 1 _) (Q06 hx6 1 _) 2 _
     have HB8:Hid (Below w.heap.size w W8):=by rw [←hW8,←hW7];exact (HB6.out.setCell (p:=⟨v3.heap.size,1,none⟩) (show w.heap.size≤v3.heap.size by omega) _).setCell (p:=⟨v3.heap.size,2,none⟩) (show w.heap.size≤v3.heap.size by omega) _
     clear r0 fr0 r1 fr1 r2 fr2
     go_wp2
     refine bodyPost_ret (v:=.tuple #[jrn key (.slice o6 (l.length+1) c6) ((l.length:Int)+1),.bool true]) (by simp [results,Tryz.results124,go_sem,q80,q81,q82]) rfl ⟨jrn key (.slice o6 (l.length+1) c6) ((l.length:Int)+1),by rw [HNF.out,HNDl.out];simp, ?_,Q0A HB8.out (by omega) _ _ _⟩
     rw [HNM.out,if_pos (by simp),if_pos HNDl.out]
     exact ⟨_,rfl,InRow.of (Q04 (Q0k (Q0k (Q0k HO8.out hrb 0 _) hrb 1 _) hrb 2 _) (by omega))⟩
theorem InJm.opn {lo hi:Nat} {w:World} {v:Value} {m:Jm} (h:InJm lo hi w v m):∃(o:Option Addr) (c:Nat),v=jrn m.key (.slice o m.l.length c) m.safe:=by
 obtain ⟨vl,rfl,⟨o,c,rfl,_⟩⟩:=h.rd
 exact ⟨o,c,rfl⟩
theorem Qfz (W:World) (B:Nat) (x y z:Value):Stp B (B+1) W (setP W B x y z):=
 ((Stp.grown (Q0D W B 0 x) (fun b e=> by injection e with e;omega)).trans (Stp.grown (Q0D _ B 1 y) (fun b e=> by injection e with e;omega))).trans (Stp.grown (Q0D _ B 2 z) (fun b e=> by injection e with e;omega))
theorem Qdd (W:World) (B:Nat) (x y z:Value):(setP W B x y z).heap.size=W.heap.size:=by simp [World.setCell]
theorem Qih {cur W:World} {B lo hi:Nat} {f:Value} {mr:Jm} {o:Option Addr} {c:Nat} {z0 z1 z2:Value} (hZ:W.heap[B]? =some (.cells #[z0,z1,z2] 25 (0,0))) (hx:Below cur.heap.size cur W) (hB:cur.heap.size≤B) (hi':InJm lo hi W (jrn mr.key (.slice o mr.l.length c) mr.safe) mr) (h1:cur.heap.size≤lo) (h2:hi≤W.heap.size) (h3:B < lo∨hi≤B):
  ∃B' lo hi o' c',Value.pointer (some ⟨B,0,none⟩)=.pointer (some ⟨B',0,none⟩)∧f=f∧Hid ((setP W B (.int .i64 mr.key) (.slice o mr.l.length c) (.int .i64 mr.safe)).heap[B']? =some (.cells #[.int .i64 mr.key,.slice o' mr.l.length c',.int .i64 mr.safe] 25 (0,0)))∧Hid (Below cur.heap.size cur (setP W B (.int .i64 mr.key) (.slice o mr.l.length c) (.int .i64 mr.safe)))∧cur.heap.size≤B'∧B' < (setP W B (.int .i64 mr.key) (.slice o mr.l.length c) (.int .i64 mr.safe)).heap.size∧Hid (InJm lo hi (setP W B (.int .i64 mr.key) (.slice o mr.l.length c) (.int .i64 mr.safe)) (jrn mr.key (.slice o' mr.l.length c') mr.safe) mr)∧cur.heap.size≤lo∧hi≤(setP W B (.int .i64 mr.key) (.slice o mr.l.length c) (.int .i64 mr.safe)).heap.size∧(B' < lo∨hi≤B'):=by
 have b1:=Q06 hZ 0 (.int .i64 mr.key);have b2:=Q06 b1 1 (.slice o mr.l.length c);have b3:=Q06 b2 2 (.int .i64 mr.safe)
 exact ⟨B,lo,hi,o,c,rfl,rfl,b3,Q0A hx hB _ _ _,hB,(Array.getElem?_eq_some_iff.1 b3).1,InJm.step hi' (Qfz W B _ _ _) (by omega),h1,by rw [Qdd];exact h2,h3⟩
theorem QhP {cur W:World} {lo hi:Nat} {f:Value} {mr:Jm} {o:Option Addr} {c:Nat} (hx:Below cur.heap.size cur W) (hi':InJm lo hi W (jrn mr.key (.slice o mr.l.length c) mr.safe) mr) (h1:cur.heap.size≤lo) (h2:hi≤W.heap.size):
  ∃B' lo hi o' c',Value.pointer (some ⟨W.heap.size,0,none⟩)=.pointer (some ⟨B',0,none⟩)∧f=f∧Hid ((W.alloc (.cells #[.int .i64 mr.key,.slice o mr.l.length c,.int .i64 mr.safe] 25)).heap[B']? =some (.cells #[.int .i64 mr.key,.slice o' mr.l.length c',.int .i64 mr.safe] 25 (0,0)))∧Hid (Below cur.heap.size cur (W.alloc (.cells #[.int .i64 mr.key,.slice o mr.l.length c,.int .i64 mr.safe] 25)))∧cur.heap.size≤B'∧B' < (W.alloc (.cells #[.int .i64 mr.key,.slice o mr.l.length c,.int .i64 mr.safe] 25)).heap.size∧Hid (InJm lo hi (W.alloc (.cells #[.int .i64 mr.key,.slice o mr.l.length c,.int .i64 mr.safe] 25)) (jrn mr.key (.slice o' mr.l.length c') mr.safe) mr)∧cur.heap.size≤lo∧hi≤(W.alloc (.cells #[.int .i64 mr.key,.slice o mr.l.length c,.int .i64 mr.safe] 25)).heap.size∧(B' < lo∨hi≤B'):=
 ⟨W.heap.size,lo,hi,o,c,rfl,rfl,World.alloc_heap_new W _,hx.alloc hx.size _,hx.size,by simp,InJm.step hi' (Stp.of (lo:=0) (hi:=0) ((Below.refl _ _).alloc (Kaq _) _)) (.inl (Kcq _)),h1,by simp;omega,.inr h2⟩
structure Dr (k:Nat) (w w':World):Prop where
 cur:isCur k w'
 gr:w.grownBy w' (some k)
theorem Dr.step {k:Nat} {w x y:World} (h:Dr k w x) (hc:isCur k y) (hg:x.grownBy y (some k)):Dr k w y:=⟨hc,Q05 h.gr hg⟩
theorem Q9D {w w1 w2:World} {k B:Nat} (h:w.grownBy w1 (some k)) (hb:Below B w1 w2) (hB:w.heap.size≤B):w.grownBy w2 (some k):=
 ⟨hb.os.trans h.os,hb.tape.trans h.tape,hb.output.trans h.output,Kdq h.size hb.size,fun j hj hne=> (hb.block j (by omega)).trans (h.block j hj hne)⟩
theorem Dr.below {k:Nat} {w x y:World} (h:Dr k w x) (hk:k < w.heap.size) (hb:Below w.heap.size x y):Dr k w y:=⟨h.cur.below (hb.mono hk),Q9D h.gr hb (Kaq _)⟩
theorem Dr.lt {k:Nat} {w x:World} (h:Dr k w x) (hk:k < w.heap.size):k < x.heap.size:=Kbq hk h.gr.size
theorem Q09 {k q:Nat} {w w':World} {O:Obj} (hg:w.grownBy w' (some k)) (hq:q < w.heap.size) (hne:q≠k) (h:w.heap[q]? =some O):w'.heap[q]? =some O:=(hg.block q hq (by simp [hne])).trans h
theorem Q1Z {q B j:Nat} {w:World} {O:Obj} {u:Value} (h:w.heap[q]? =some O) (hne:q≠B):(w.setCell ⟨B,j,none⟩ u).heap[q]? =some O:=((Q0D w B j u).block q (Array.getElem?_eq_some_iff.1 h).1 (by simp [hne])).trans h
theorem Q3s {α:Type} {L:Lay α} {e:TypeId} {w w':World} {base k:Nat} {v:Value} {l:List α} (h:ownL L e w base v l) (hg:w.grownBy w' (some k)) (hk:k < base):ownL L e w' base v l:=
World.ownsRow.kept h hg (by
  cases hob:v.ownBlock with
  |none=> exact .inl rfl
  |some j=> right;have:=(h.lt j hob).1;intro e;simp at e;omega)
theorem Qd7 {W:World} {R:Nat} {x y z z0 z1 z2:Value} {T:TypeId} (h:W.heap[R]? =some (.cells #[z0,z1,z2] T (0,0))) (O:Obj):((((W.setCell ⟨R,0,none⟩ x).setCell ⟨R,1,none⟩ y).setCell ⟨R,2,none⟩ z).alloc O).cell? ⟨R,0,none⟩=some x∧((((W.setCell ⟨R,0,none⟩ x).setCell ⟨R,1,none⟩ y).setCell ⟨R,2,none⟩ z).alloc O).cell? ⟨R,1,none⟩=some y∧((((W.setCell ⟨R,0,none⟩ x).setCell ⟨R,1,none⟩ y).setCell ⟨R,2,none⟩ z).alloc O).cell? ⟨R,2,none⟩=some z:=by
 have b3:=Q06 (Q06 (Q06 h 0 x) 1 y) 2 z
 have b4:=((Below.refl _ _).alloc (Kaq _) O).block R (Array.getElem?_eq_some_iff.1 b3).1
 have b5:=b4.trans b3
 exact ⟨Q00 b5 0 _ rfl,Q00 b5 1 _ rfl,Q00 b5 2 _ rfl⟩
theorem Q2l (k:Nat) (vs:List Int) (w:World) (hc:isCur k w) (hk:k < w.heap.size) (h0:0 < vs.length) (h1:vs.length≤1000):
  Calls Tryz.prog 55 #[.pointer (some ⟨k,0,none⟩),.slice (some ⟨w.heap.size,0,none⟩) vs.length vs.length] (w.alloc (.cells (vs.map (Value.int .i64)).toArray 3)) fun e w'=> ∃x,x∈vs∧e=.returned (.int .i64 x)∧isCur k w'∧w.grownBy w' (some k):=by
 refine (Q0H k w.heap.size vs _ (hc.alloc hk _) (by simp) (by omega) h0 h1 (fun q hq=> ?_)).mono ?_
 ·refine Q00 (World.alloc_heap_new w _) q _ ?_
  rw [List.getElem?_toArray,List.getElem?_map,List.getElem?_eq_getElem hq,List.getD_eq_getElem?_getD,List.getElem?_eq_getElem hq]
  rfl
 ·rintro e w' ⟨q,hq,rfl,hc',hg'⟩
  refine ⟨_, ?_,rfl,hc',Q05 (Q0r w _ k) hg'⟩
  rw [List.getD_eq_getElem?_getD,List.getElem?_eq_getElem hq]
  exact List.getElem_mem hq
theorem Q6R (k:Nat) (w:World) (hc:isCur k w) (hk:k < w.heap.size):
  Calls Tryz.prog 121 #[.pointer (some ⟨k,0,none⟩)] w fun e w'=> ∃a i g:Int,e=.returned (cmd a i g)∧Q0E a i g=true∧Dr k w w':=by
 obtain ⟨W0,hW0⟩:∃W,w.alloc (.cells #[.int .i64 0,.int .i64 0,.int .i64 0] 77)=W:=⟨_,rfl⟩
 have hb0:Below w.heap.size w W0:=by rw [←hW0];exact (Below.refl _ _).alloc (Kaq _) _
 have HD0:=Q02 (show Dr k w W0 from ⟨hc.below (hb0.mono hk),by rw [←hW0];exact Q0r w _ k⟩)
 have HR0:Hid (W0.heap[w.heap.size]? =some (.cells #[.int .i64 0,.int .i64 0,.int .i64 0] 77 (0,0))):=by rw [←hW0];exact World.alloc_heap_new w _
 have hs0:w.heap.size < W0.heap.size:=by rw [←hW0];simp
 clear hb0 hc
 go_enter Tryz.func121,Tryz.ntmps121
 go_wp2_with fail
 refine (Q2l k [0,0,0,1,2,3] W0 HD0.out.cur (HD0.out.lt hk) (by decide) (by decide)).mono ?_
 rintro e w1 ⟨a,ha,rfl,hc1,hg1⟩
 have HA:=Q02 ha;have HD1:=Q02 (HD0.out.step hc1 hg1)
 have HR1:=Q02 (Q09 hg1 hs0 (by omega) HR0.out)
 have hs1:w.heap.size < w1.heap.size:=Kbq hs0 hg1.size;clear ha hc1 hg1 HR0 HD0 hs0
 go_wp2_with fail
 refine (Q0m k 5 w1 HD1.out.cur (by decide) (by decide)).mono ?_
 rintro e w2 ⟨i,rfl,hi0,hi5,hc2,hg2⟩
 have HD2:=Q02 (HD1.out.step hc2 hg2)
 have HR2:=Q02 (Q09 hg2 hs1 (by omega) HR1.out)
 have hs2:w.heap.size < w2.heap.size:=Kbq hs1 hg2.size;clear hc2 hg2 HR1 HD1 hs1;have hb3:Below w2.heap.size w2 (w2.alloc (.cells #[.int .i64 a,.int .i64 i,.int .i64 0] 77)):=(Below.refl _ _).alloc (Kaq _) _;have HX3:Hid ((w2.alloc (.cells #[.int .i64 a,.int .i64 i,.int .i64 0] 77)).heap[w2.heap.size]? =some (.cells #[.int .i64 a,.int .i64 i,.int .i64 0] 77 (0,0))):=World.alloc_heap_new w2 _;have HR3:=Q02 ((hb3.block _ hs2).trans HR2.out);have HD3:=Q02 (HD2.out.below hk (hb3.mono (Nat.le_of_lt hs2)))
 have hs3:w2.heap.size < ((w2.alloc (.cells #[.int .i64 a,.int .i64 i,.int .i64 0] 77))).heap.size:=by simp
 have hsz:((w2.alloc (.cells #[.int .i64 a,.int .i64 i,.int .i64 0] 77))).heap.size=w2.heap.size+1:=by simp
 have HSZ:=Q02 hsz
 have hne:¬w.heap.size=w2.heap.size:=by omega
 clear hb3 hsz
 by_cases h1:a≤1
 ·go_wp2_with fail
  clear HR2 HD2;generalize (w2.alloc (.cells #[.int .i64 a,.int .i64 i,.int .i64 0] 77))=W3 at *
  rw [←HSZ.out]
  refine (Q2l k [1,2,10,100] W3 HD3.out.cur (HD3.out.lt hk) (by decide) (by decide)).mono ?_
  rintro e w5 ⟨g,hgm,rfl,hc5,hg5⟩
  have hkw:k < w2.heap.size:=by omega
  have HX5:=Q09 hg5 hs3 (by omega) HX3.out
  have HR5:=Q09 hg5 (by omega) (by omega) HR3.out
  have HD5:=Q02 (HD3.out.step hc5 hg5)
  have HOK:=Q02 (show Q0E a i g=true by
   have h2:=HA.out
   simp at h2 hgm
   unfold Q0E
   simp
   omega)
  have hX6:=Q06 HX5 2 (.int .i64 g)
  have hR6:=Q1Z (j:=2) (u:=.int .i64 g) HR5 (show w.heap.size≠w2.heap.size by omega)
  have y2:w5.cell? ⟨w2.heap.size,2,none⟩=some (.int .i64 0):=Q00 HX5 2 _ rfl;have fy2:w5.frozen? ⟨w2.heap.size,2,none⟩=false:=Q01 HX5 2;have z0:(w5.setCell ⟨w2.heap.size,2,none⟩ (.int .i64 g)).cell? ⟨w2.heap.size,0,none⟩=some (.int .i64 a):=Q00 hX6 0 _ rfl;have z1:(w5.setCell ⟨w2.heap.size,2,none⟩ (.int .i64 g)).cell? ⟨w2.heap.size,1,none⟩=some (.int .i64 i):=Q00 hX6 1 _ rfl;have z2:(w5.setCell ⟨w2.heap.size,2,none⟩ (.int .i64 g)).cell? ⟨w2.heap.size,2,none⟩=some (.int .i64 g):=Q00 hX6 2 _ rfl
  have r0:(w5.setCell ⟨w2.heap.size,2,none⟩ (.int .i64 g)).cell? ⟨w.heap.size,0,none⟩=some (.int .i64 0):=Q00 hR6 0 _ rfl;have fr0:(w5.setCell ⟨w2.heap.size,2,none⟩ (.int .i64 g)).frozen? ⟨w.heap.size,0,none⟩=false:=Q01 hR6 0;have r1:(w5.setCell ⟨w2.heap.size,2,none⟩ (.int .i64 g)).cell? ⟨w.heap.size,1,none⟩=some (.int .i64 0):=Q00 hR6 1 _ rfl;have fr1:(w5.setCell ⟨w2.heap.size,2,none⟩ (.int .i64 g)).frozen? ⟨w.heap.size,1,none⟩=false:=Q01 hR6 1;have r2:(w5.setCell ⟨w2.heap.size,2,none⟩ (.int .i64 g)).cell? ⟨w.heap.size,2,none⟩=some (.int .i64 0):=Q00 hR6 2 _ rfl
  have fr2:(w5.setCell ⟨w2.heap.size,2,none⟩ (.int .i64 g)).frozen? ⟨w.heap.size,2,none⟩=false:=Q01 hR6 2;clear hc5 hg5 HX5 HR5 hX6 hR6 HX3 HR3 HD3 HA hgm
  go_wp2
  refine bodyPost_ret (v:=cmd a i g) (by simp [results,Tryz.results121,go_sem,r0,r1,r2]) rfl ⟨a,i,g,rfl,HOK.out,HD5.out.below hk ?_⟩
  exact Q0A ((Below.refl _ _).setCell (p:=⟨w2.heap.size,2,none⟩) (Nat.le_of_lt hs2) _) (Kaq _) _ _ _
 ·have HOK:=Q02 (show Q0E a i 0=true by
   have h2:=HA.out
   simp at h2
   unfold Q0E
   simp
   omega)
  have r0:w2.cell? ⟨w.heap.size,0,none⟩=some (.int .i64 0):=Q00 HR2.out 0 _ rfl;have fr0:w2.frozen? ⟨w.heap.size,0,none⟩=false:=Q01 HR2.out 0;have r1:w2.cell? ⟨w.heap.size,1,none⟩=some (.int .i64 0):=Q00 HR2.out 1 _ rfl;have fr1:w2.frozen? ⟨w.heap.size,1,none⟩=false:=Q01 HR2.out 1;have r2:w2.cell? ⟨w.heap.size,2,none⟩=some (.int .i64 0):=Q00 HR2.out 2 _ rfl;have fr2:w2.frozen? ⟨w.heap.size,2,none⟩=false:=Q01 HR2.out 2;obtain ⟨q0,q1,q2⟩:=Qd7 (x:=.int .i64 a) (y:=.int .i64 i) (z:=.int .i64 0) HR2.out (.cells #[.int .i64 a,.int .i64 i,.int .i64 0] 77);have HQ0:=Q02 q0;have HQ1:=Q02 q1
  have HQ2:=Q02 q2;clear HX3 HR3 HR2 HA q0 q1 q2
  go_wp2
  refine bodyPost_ret (v:=cmd a i 0) (by simp [results,Tryz.results121,go_sem,HQ0.out,HQ1.out,HQ2.out]) rfl ⟨a,i,0,rfl,HOK.out,HD2.out.below hk ?_⟩
  exact (Q0A (Below.refl _ _) (Kaq _) _ _ _).alloc (by simp;omega) _
theorem Q8f (k:Nat) (w:World) (hc:isCur k w) (hk:k < w.heap.size):
  Calls Tryz.prog 72 #[.pointer (some ⟨k,0,none⟩)] w fun e w'=> ∃a i g:Int,e=.returned (cmd a i g)∧Dr k w w':=by
 obtain ⟨W0,hW0⟩:∃W,w.alloc (.cells #[.int .i64 0,.int .i64 0,.int .i64 0] 77)=W:=⟨_,rfl⟩
 have hb0:Below w.heap.size w W0:=by rw [←hW0];exact (Below.refl _ _).alloc (Kaq _) _
 have HD0:=Q02 (show Dr k w W0 from ⟨hc.below (hb0.mono hk),by rw [←hW0];exact Q0r w _ k⟩)
 have HR0:Hid (W0.heap[w.heap.size]? =some (.cells #[.int .i64 0,.int .i64 0,.int .i64 0] 77 (0,0))):=by rw [←hW0];exact World.alloc_heap_new w _
 have hs0:w.heap.size < W0.heap.size:=by rw [←hW0];simp
 clear hb0 hc
 go_enter Tryz.func72,Tryz.ntmps72
 go_wp2_with fail
 refine (Q6R k W0 HD0.out.cur (HD0.out.lt hk)).mono ?_
 rintro e w1 ⟨a,i,g,rfl,_,hd1⟩
 have HD1:=Q02 (HD0.out.step hd1.cur hd1.gr)
 have HR1:=Q02 (Q09 hd1.gr hs0 (by omega) HR0.out)
 have hs1:w.heap.size < w1.heap.size:=Kbq hs0 hd1.gr.size;clear hd1 HR0 HD0 hs0;have hb2:Below w1.heap.size w1 (w1.alloc (.cells #[.int .i64 a,.int .i64 i,.int .i64 g] 77)):=(Below.refl _ _).alloc (Kaq _) _;have HX2:Hid ((w1.alloc (.cells #[.int .i64 a,.int .i64 i,.int .i64 g] 77)).heap[w1.heap.size]? =some (.cells #[.int .i64 a,.int .i64 i,.int .i64 g] 77 (0,0))):=World.alloc_heap_new w1 _;have HR2:=Q02 ((hb2.block _ hs1).trans HR1.out);have HD2:=Q02 (HD1.out.below hk (hb2.mono (Nat.le_of_lt hs1)))
 have hs2:w1.heap.size < ((w1.alloc (.cells #[.int .i64 a,.int .i64 i,.int .i64 g] 77))).heap.size:=by simp
 have hsz:((w1.alloc (.cells #[.int .i64 a,.int .i64 i,.int .i64 g] 77))).heap.size=w1.heap.size+1:=by simp
 have HSZ:=Q02 hsz;clear hb2 HR1 HD1 hsz
 go_wp2_with fail
 generalize (w1.alloc (.cells #[.int .i64 a,.int .i64 i,.int .i64 g] 77))=W2 at *
 refine (Q1g k 7 W2 HD2.out.cur (by decide) (by decide)).mono ?_
 rintro e w4 ⟨yes,rfl,hc4,hg4⟩
 have HX4:=Q02 (Q09 hg4 hs2 (by omega) HX2.out)
 have HR4:=Q02 (Q09 hg4 (by omega) (by omega) HR2.out)
 have HD4:=Q02 (HD2.out.step hc4 hg4);have hs4:w1.heap.size < w4.heap.size:=Kbq hs2 hg4.size;clear hc4 hg4 HX2 HR2 HD2 hs2
 cases yes with
 |false=>
  have z0:w4.cell? ⟨w1.heap.size,0,none⟩=some (.int .i64 a):=Q00 HX4.out 0 _ rfl;have z1:w4.cell? ⟨w1.heap.size,1,none⟩=some (.int .i64 i):=Q00 HX4.out 1 _ rfl;have z2:w4.cell? ⟨w1.heap.size,2,none⟩=some (.int .i64 g):=Q00 HX4.out 2 _ rfl;have r0:w4.cell? ⟨w.heap.size,0,none⟩=some (.int .i64 0):=Q00 HR4.out 0 _ rfl;have fr0:w4.frozen? ⟨w.heap.size,0,none⟩=false:=Q01 HR4.out 0;have r1:w4.cell? ⟨w.heap.size,1,none⟩=some (.int .i64 0):=Q00 HR4.out 1 _ rfl;have fr1:w4.frozen? ⟨w.heap.size,1,none⟩=false:=Q01 HR4.out 1;have r2:w4.cell? ⟨w.heap.size,2,none⟩=some (.int .i64 0):=Q00 HR4.out 2 _ rfl
  have fr2:w4.frozen? ⟨w.heap.size,2,none⟩=false:=Q01 HR4.out 2;clear HX4 HR4
  go_wp2
  refine bodyPost_ret (v:=cmd a i g) (by simp [results,Tryz.results72,go_sem,r0,r1,r2]) rfl ⟨a,i,g,rfl,HD4.out.below hk ?_⟩
  exact Q0A (Below.refl _ _) (Kaq _) _ _ _
 |true=>
  go_wp2_with fail
  refine (Q0m k 3 w4 HD4.out.cur (by decide) (by decide)).mono ?_
  rintro e w3 ⟨x,rfl,hx0,hx3,hc3,hg3⟩
  have HX3:=Q02 (Q09 hg3 hs4 (by omega) HX4.out)
  have HR3:=Q02 (Q09 hg3 (by omega) (by omega) HR4.out)
  have HD3:=Q02 (HD4.out.step hc3 hg3);have hs3:w1.heap.size < w3.heap.size:=Kbq hs4 hg3.size;clear hc3 hg3 HX4 HR4 HD4 hs4
  by_cases e0:x=0
  ·subst e0
   go_wp2_with fail
   refine (Q2l k [-1,4,2] w3 HD3.out.cur (HD3.out.lt hk) (by decide) (by decide)).mono ?_
   rintro e w5 ⟨y,hym,rfl,hc5,hg5⟩
   have HX5:=Q09 hg5 hs3 (by omega) HX3.out
   have HR5:=Q09 hg5 (by omega) (by omega) HR3.out
   have HD5:=Q02 (HD3.out.step hc5 hg5);have hX6:=Q06 HX5 0 (.int .i64 y)
   have hR6:=Q1Z (j:=0) (u:=.int .i64 y) HR5 (show w.heap.size≠w1.heap.size by omega)
   have y2:w5.cell? ⟨w1.heap.size,0,none⟩=some (.int .i64 a):=Q00 HX5 0 _ rfl;have fy2:w5.frozen? ⟨w1.heap.size,0,none⟩=false:=Q01 HX5 0;have z0:(w5.setCell ⟨w1.heap.size,0,none⟩ (.int .i64 y)).cell? ⟨w1.heap.size,0,none⟩=some (.int .i64 y):=Q00 hX6 0 _ rfl;have z1:(w5.setCell ⟨w1.heap.size,0,none⟩ (.int .i64 y)).cell? ⟨w1.heap.size,1,none⟩=some (.int .i64 i):=Q00 hX6 1 _ rfl;have z2:(w5.setCell ⟨w1.heap.size,0,none⟩ (.int .i64 y)).cell? ⟨w1.heap.size,2,none⟩=some (.int .i64 g):=Q00 hX6 2 _ rfl
   have r0:(w5.setCell ⟨w1.heap.size,0,none⟩ (.int .i64 y)).cell? ⟨w.heap.size,0,none⟩=some (.int .i64 0):=Q00 hR6 0 _ rfl;have fr0:(w5.setCell ⟨w1.heap.size,0,none⟩ (.int .i64 y)).frozen? ⟨w.heap.size,0,none⟩=false:=Q01 hR6 0;have r1:(w5.setCell ⟨w1.heap.size,0,none⟩ (.int .i64 y)).cell? ⟨w.heap.size,1,none⟩=some (.int .i64 0):=Q00 hR6 1 _ rfl;have fr1:(w5.setCell ⟨w1.heap.size,0,none⟩ (.int .i64 y)).frozen? ⟨w.heap.size,1,none⟩=false:=Q01 hR6 1;have r2:(w5.setCell ⟨w1.heap.size,0,none⟩ (.int .i64 y)).cell? ⟨w.heap.size,2,none⟩=some (.int .i64 0):=Q00 hR6 2 _ rfl
   have fr2:(w5.setCell ⟨w1.heap.size,0,none⟩ (.int .i64 y)).frozen? ⟨w.heap.size,2,none⟩=false:=Q01 hR6 2;clear hc5 hg5 HX5 HR5 hX6 hR6 HX3 HR3 HD3 hym
   go_wp2
   refine bodyPost_ret (v:=cmd y i g) (by simp [results,Tryz.results72,go_sem,r0,r1,r2]) rfl ⟨y,i,g,rfl,HD5.out.below hk ?_⟩
   exact Q0A ((Below.refl _ _).setCell (p:=⟨w1.heap.size,0,none⟩) (Nat.le_of_lt hs1) _) (Kaq _) _ _ _
  by_cases e1:x=1
  ·subst e1
   go_wp2_with fail
   refine (Q2l k [-1,6] w3 HD3.out.cur (HD3.out.lt hk) (by decide) (by decide)).mono ?_
   rintro e w5 ⟨y,hym,rfl,hc5,hg5⟩
   have HX5:=Q09 hg5 hs3 (by omega) HX3.out
   have HR5:=Q09 hg5 (by omega) (by omega) HR3.out
   have HD5:=Q02 (HD3.out.step hc5 hg5);have hX6:=Q06 HX5 1 (.int .i64 y)
   have hR6:=Q1Z (j:=1) (u:=.int .i64 y) HR5 (show w.heap.size≠w1.heap.size by omega)
   have y2:w5.cell? ⟨w1.heap.size,1,none⟩=some (.int .i64 i):=Q00 HX5 1 _ rfl;have fy2:w5.frozen? ⟨w1.heap.size,1,none⟩=false:=Q01 HX5 1;have z0:(w5.setCell ⟨w1.heap.size,1,none⟩ (.int .i64 y)).cell? ⟨w1.heap.size,0,none⟩=some (.int .i64 a):=Q00 hX6 0 _ rfl;have z1:(w5.setCell ⟨w1.heap.size,1,none⟩ (.int .i64 y)).cell? ⟨w1.heap.size,1,none⟩=some (.int .i64 y):=Q00 hX6 1 _ rfl;have z2:(w5.setCell ⟨w1.heap.size,1,none⟩ (.int .i64 y)).cell? ⟨w1.heap.size,2,none⟩=some (.int .i64 g):=Q00 hX6 2 _ rfl
   have r0:(w5.setCell ⟨w1.heap.size,1,none⟩ (.int .i64 y)).cell? ⟨w.heap.size,0,none⟩=some (.int .i64 0):=Q00 hR6 0 _ rfl;have fr0:(w5.setCell ⟨w1.heap.size,1,none⟩ (.int .i64 y)).frozen? ⟨w.heap.size,0,none⟩=false:=Q01 hR6 0;have r1:(w5.setCell ⟨w1.heap.size,1,none⟩ (.int .i64 y)).cell? ⟨w.heap.size,1,none⟩=some (.int .i64 0):=Q00 hR6 1 _ rfl;have fr1:(w5.setCell ⟨w1.heap.size,1,none⟩ (.int .i64 y)).frozen? ⟨w.heap.size,1,none⟩=false:=Q01 hR6 1;have r2:(w5.setCell ⟨w1.heap.size,1,none⟩ (.int .i64 y)).cell? ⟨w.heap.size,2,none⟩=some (.int .i64 0):=Q00 hR6 2 _ rfl
   have fr2:(w5.setCell ⟨w1.heap.size,1,none⟩ (.int .i64 y)).frozen? ⟨w.heap.size,2,none⟩=false:=Q01 hR6 2;clear hc5 hg5 HX5 HR5 hX6 hR6 HX3 HR3 HD3 hym
   go_wp2
   refine bodyPost_ret (v:=cmd a y g) (by simp [results,Tryz.results72,go_sem,r0,r1,r2]) rfl ⟨a,y,g,rfl,HD5.out.below hk ?_⟩
   exact Q0A ((Below.refl _ _).setCell (p:=⟨w1.heap.size,1,none⟩) (Nat.le_of_lt hs1) _) (Kaq _) _ _ _
  ·go_wp2_with fail
   refine (Q2l k [-1,0,101,5] w3 HD3.out.cur (HD3.out.lt hk) (by decide) (by decide)).mono ?_
   rintro e w5 ⟨y,hym,rfl,hc5,hg5⟩
   have HX5:=Q09 hg5 hs3 (by omega) HX3.out
   have HR5:=Q09 hg5 (by omega) (by omega) HR3.out
   have HD5:=Q02 (HD3.out.step hc5 hg5);have hX6:=Q06 HX5 2 (.int .i64 y)
   have hR6:=Q1Z (j:=2) (u:=.int .i64 y) HR5 (show w.heap.size≠w1.heap.size by omega)
   have y2:w5.cell? ⟨w1.heap.size,2,none⟩=some (.int .i64 g):=Q00 HX5 2 _ rfl;have fy2:w5.frozen? ⟨w1.heap.size,2,none⟩=false:=Q01 HX5 2;have z0:(w5.setCell ⟨w1.heap.size,2,none⟩ (.int .i64 y)).cell? ⟨w1.heap.size,0,none⟩=some (.int .i64 a):=Q00 hX6 0 _ rfl;have z1:(w5.setCell ⟨w1.heap.size,2,none⟩ (.int .i64 y)).cell? ⟨w1.heap.size,1,none⟩=some (.int .i64 i):=Q00 hX6 1 _ rfl;have z2:(w5.setCell ⟨w1.heap.size,2,none⟩ (.int .i64 y)).cell? ⟨w1.heap.size,2,none⟩=some (.int .i64 y):=Q00 hX6 2 _ rfl
   have r0:(w5.setCell ⟨w1.heap.size,2,none⟩ (.int .i64 y)).cell? ⟨w.heap.size,0,none⟩=some (.int .i64 0):=Q00 hR6 0 _ rfl;have fr0:(w5.setCell ⟨w1.heap.size,2,none⟩ (.int .i64 y)).frozen? ⟨w.heap.size,0,none⟩=false:=Q01 hR6 0;have r1:(w5.setCell ⟨w1.heap.size,2,none⟩ (.int .i64 y)).cell? ⟨w.heap.size,1,none⟩=some (.int .i64 0):=Q00 hR6 1 _ rfl;have fr1:(w5.setCell ⟨w1.heap.size,2,none⟩ (.int .i64 y)).frozen? ⟨w.heap.size,1,none⟩=false:=Q01 hR6 1;have r2:(w5.setCell ⟨w1.heap.size,2,none⟩ (.int .i64 y)).cell? ⟨w.heap.size,2,none⟩=some (.int .i64 0):=Q00 hR6 2 _ rfl
   have fr2:(w5.setCell ⟨w1.heap.size,2,none⟩ (.int .i64 y)).frozen? ⟨w.heap.size,2,none⟩=false:=Q01 hR6 2;clear hc5 hg5 HX5 HR5 hX6 hR6 HX3 HR3 HD3 hym
   go_wp2
   refine bodyPost_ret (v:=cmd a i y) (by simp [results,Tryz.results72,go_sem,r0,r1,r2]) rfl ⟨a,i,y,rfl,HD5.out.below hk ?_⟩
   exact Q0A ((Below.refl _ _).setCell (p:=⟨w1.heap.size,2,none⟩) (Nat.le_of_lt hs1) _) (Kaq _) _ _ _
end Go.Proofs.YtpneolgdghbinaaGreat
