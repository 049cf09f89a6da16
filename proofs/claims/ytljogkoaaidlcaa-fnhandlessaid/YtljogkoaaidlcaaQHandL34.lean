/- Several texts in one: SDrAg, SDrAg2. -/
import Derived.Test.YtljogkoaaidlcaaQHandL27
import Derived.Test.YtljogkoaaidlcaaQHandL22
import Derived.Test.YtljogkoaaidlcaaQHandL32
import Derived.Test.YtljogkoaaidlcaaQHandL33
namespace Go.Proofs.Ytljogkoaaidlcaa
open Go.ChangeShapes Go.WideShapes Go.ChangeAt Go.RowKit Go.Joins
set_option linter.unusedVariables false
set_option linter.unusedSimpArgs false
set_option maxRecDepth 100000
set_option maxHeartbeats 40000000
structure AInv (k B R:Nat) (w0 wr:World) (m:Am) (bc fc cc bt ft ct:Nat):Prop where
 okc:Q0b m.c=true
 okt:Q0b m.t=true
 cur:isCur k wr
 box:wr.heap[B]? =some (.cells #[.int .i64 m.id,.int .i64 m.lim,.bool m.dr,.slice (some ⟨bc,fc,none⟩) m.c.length cc,.slice (some ⟨bt,ft,none⟩) m.t.length ct] 27 (0,0))
 res:wr.heap[R]? =some (.cells #[.int .i64 0,.int .i64 0,.bool false,.slice none 0 0,.slice none 0 0] 27 (0,0))
 ltc:bc < wr.heap.size
 ltt:bt < wr.heap.size
 gec:w0.heap.size≤bc
 get:w0.heap.size≤bt
 nec:bc≠B
 net:bt≠B
 rdc:Row wr bc fc m.c
 rdt:Row wr bt ft m.t
 gr:w0.grownBy wr (some k)
theorem AInv.boxlt {k B R:Nat} {w0 wr:World} {m:Am} {bc fc cc bt ft ct:Nat} (h:AInv k B R w0 wr m bc fc cc bt ft ct):B < wr.heap.size:=(Array.getElem?_eq_some_iff.1 h.box).1
theorem AInv.reslt {k B R:Nat} {w0 wr:World} {m:Am} {bc fc cc bt ft ct:Nat} (h:AInv k B R w0 wr m bc fc cc bt ft ct):R < wr.heap.size:=(Array.getElem?_eq_some_iff.1 h.res).1
theorem AInv.size {k B R:Nat} {w0 wr:World} {m:Am} {bc fc cc bt ft ct:Nat} (h:AInv k B R w0 wr m bc fc cc bt ft ct) (hk:k < w0.heap.size):k < wr.heap.size:=Kbq hk h.gr.size
theorem AInv.draw {k B R:Nat} {w0 wr x:World} {m:Am} {bc fc cc bt ft ct:Nat} (h:AInv k B R w0 wr m bc fc cc bt ft ct) (hk:k < w0.heap.size) (hB:w0.heap.size≤B) (hR:w0.heap.size≤R) (hg:wr.drew.grownBy x (some k)) (hc:isCur k x):AInv k B R w0 x m bc fc cc bt ft ct:=by
 have hg':wr.grownBy x (some k):=⟨hg.os,hg.tape,hg.output,hg.size,hg.block⟩
 have hb1:=h.boxlt
 have hr1:=h.reslt
 have hgc:=h.gec
 have hgt:=h.get
 refine ⟨h.okc,h.okt,hc,(hg'.block B hb1 (by simp;omega)).trans h.box,(hg'.block R hr1 (by simp;omega)).trans h.res,Kbq h.ltc hg'.size,Kbq h.ltt hg'.size,h.gec,h.get,h.nec,h.net,fun i hi j hj=> (Q0N hg' h.ltc (by omega)).trans (h.rdc i hi j hj),fun i hi j hj=> (Q0N hg' h.ltt (by omega)).trans (h.rdt i hi j hj),Q08 h.gr hg'⟩
theorem AInv.draw0 {k B R:Nat} {w0 wr x:World} {m:Am} {bc fc cc bt ft ct:Nat} (h:AInv k B R w0 wr m bc fc cc bt ft ct) (hk:k < w0.heap.size) (hB:w0.heap.size≤B) (hR:w0.heap.size≤R) (hg:wr.grownBy x (some k)) (hc:isCur k x):AInv k B R w0 x m bc fc cc bt ft ct:=
 h.draw hk hB hR ⟨hg.os,hg.tape,hg.output,hg.size,hg.block⟩ hc
theorem AInv.below {k B R C:Nat} {w0 wr x:World} {m:Am} {bc fc cc bt ft ct:Nat} (h:AInv k B R w0 wr m bc fc cc bt ft ct) (hb:Below C wr x) (hk:k < C) (hB:B < C) (hR:R < C) (hc:bc < C) (ht:bt < C) (h0:w0.heap.size≤C):AInv k B R w0 x m bc fc cc bt ft ct:=by
 have hs:=hb.size
 have l1:=h.ltc
 have l2:=h.ltt
 exact ⟨h.okc,h.okt,h.cur.below (hb.mono hk),(hb.block B hB).trans h.box,(hb.block R hR).trans h.res,by omega,by omega,h.gec,h.get,h.nec,h.net,h.rdc.kept hb hc,h.rdt.kept hb ht,Q0h h.gr hb h0⟩
theorem AInv.curd {k B R:Nat} {w0 wr:World} {m:Am} {bc fc cc bt ft ct:Nat} (h:AInv k B R w0 wr m bc fc cc bt ft ct):isCur k wr.drew:=h.cur.below (Below.drew (Below.refl _ _))
theorem AInv.cells {k B R:Nat} {w0 wr:World} {m:Am} {bc fc cc bt ft ct:Nat} (h:AInv k B R w0 wr m bc fc cc bt ft ct):wr.cell? ⟨B,0,none⟩=some (.int .i64 m.id)∧wr.cell? ⟨B,1,none⟩=some (.int .i64 m.lim)∧wr.cell? ⟨B,2,none⟩=some (.bool m.dr)∧wr.cell? ⟨B,3,none⟩=some (.slice (some ⟨bc,fc,none⟩) m.c.length cc)∧wr.cell? ⟨B,4,none⟩=some (.slice (some ⟨bt,ft,none⟩) m.t.length ct)∧∀j,wr.frozen? ⟨B,j,none⟩=false:=
 ⟨Q02 h.box 0 _ rfl,Q02 h.box 1 _ rfl,Q02 h.box 2 _ rfl,Q02 h.box 3 _ rfl,Q02 h.box 4 _ rfl,fun j=> Q0f h.box j⟩
theorem Q1D {W:World} {P:Nat} {c0 c1 c2 c3 c4 c5 c6 c7:Value} {T:TypeId} (h:W.heap[P]? =some (.cells #[c0,c1,c2,c3,c4,c5,c6,c7] T (0,0))):W.cell? ⟨P,0,none⟩=some c0∧W.cell? ⟨P,1,none⟩=some c1∧W.cell? ⟨P,2,none⟩=some c2∧W.cell? ⟨P,3,none⟩=some c3∧W.cell? ⟨P,4,none⟩=some c4∧W.cell? ⟨P,5,none⟩=some c5∧W.cell? ⟨P,6,none⟩=some c6∧W.cell? ⟨P,7,none⟩=some c7∧∀j,W.frozen? ⟨P,j,none⟩=false:=
 ⟨Q02 h 0 _ rfl,Q02 h 1 _ rfl,Q02 h 2 _ rfl,Q02 h 3 _ rfl,Q02 h 4 _ rfl,Q02 h 5 _ rfl,Q02 h 6 _ rfl,Q02 h 7 _ rfl,fun j=> Q0f h j⟩
theorem AInv.store {k B R:Nat} {w0 x y:World} {m m2:Am} {bc fc cc bt ft ct bc2 fc2 cc2 bt2 ft2 ct2:Nat} (h:AInv k B R w0 x m bc fc cc bt ft ct) (hk:k < w0.heap.size) (hB:w0.heap.size≤B) (hRB:R < B) (hR:w0.heap.size≤R) (hc2:Q0b m2.c=true) (ht2:Q0b m2.t=true) (hb:Below x.heap.size x y) (lc:bc2 < y.heap.size) (lt:bt2 < y.heap.size) (rc:Row y bc2 fc2 m2.c) (rt:Row y bt2 ft2 m2.t) (oc:bc2=bc∨x.heap.size≤bc2) (ot:bt2=bt∨x.heap.size≤bt2):
  AInv k B R w0 (((((y.setCell ⟨B,0,none⟩ (.int .i64 m2.id)).setCell ⟨B,1,none⟩ (.int .i64 m2.lim)).setCell ⟨B,2,none⟩ (.bool m2.dr)).setCell ⟨B,3,none⟩ (.slice (some ⟨bc2,fc2,none⟩) m2.c.length cc2)).setCell ⟨B,4,none⟩ (.slice (some ⟨bt2,ft2,none⟩) m2.t.length ct2)) m2 bc2 fc2 cc2 bt2 ft2 ct2:=by
 have hb1:=h.boxlt
 have hr1:=h.reslt
 have hbx:=(hb.block B hb1).trans h.box
 have hrx:=(hb.block R hr1).trans h.res
 have g1:=h.gec
 have g2:=h.get
 have n1:=h.nec
 have n2:=h.net
 have hsx:=h.gr.size
 have hcB:bc2≠B:=by omega
 have htB:bt2≠B:=by omega
 have hst:=Q04 y B (.int .i64 m2.id) (.int .i64 m2.lim) (.bool m2.dr) (.slice (some ⟨bc2,fc2,none⟩) m2.c.length cc2) (.slice (some ⟨bt2,ft2,none⟩) m2.t.length ct2)
 have hsz:=Q18 y B (.int .i64 m2.id) (.int .i64 m2.lim) (.bool m2.dr) (.slice (some ⟨bc2,fc2,none⟩) m2.c.length cc2) (.slice (some ⟨bt2,ft2,none⟩) m2.t.length ct2)
 have hbW:Below (k+1) x _:=Q07 (hb.mono (show k+1≤x.heap.size by omega)) (show k+1≤B by omega) (.int .i64 m2.id) (.int .i64 m2.lim) (.bool m2.dr) (.slice (some ⟨bc2,fc2,none⟩) m2.c.length cc2) (.slice (some ⟨bt2,ft2,none⟩) m2.t.length ct2)
 have hw:Below w0.heap.size x _:=Q07 (hb.mono hsx) hB (.int .i64 m2.id) (.int .i64 m2.lim) (.bool m2.dr) (.slice (some ⟨bc2,fc2,none⟩) m2.c.length cc2) (.slice (some ⟨bt2,ft2,none⟩) m2.t.length ct2)
 refine ⟨hc2,ht2,h.cur.below hbW, ?_,hst.box hrx (.inl hRB),by rw [hsz];exact lc,by rw [hsz];exact lt,by omega,by omega,hcB,htB,rc.step hst lc (by omega),rt.step hst lt (by omega),Q0h h.gr hw (Kaq _)⟩
 exact Q10 _ B 4 _ _ _ (Q10 _ B 3 _ _ _ (Q10 _ B 2 _ _ _ (Q10 _ B 1 _ _ _ (Q10 _ B 0 _ _ _ hbx))))
theorem Q5z (z:Int) (h0:0≤z) (h1:z≤1000000):IntKind.i64.wrap z=z:=by
 simp [go_sem,IntKind.wrap,IntKind.bits,IntKind.signed] <;> omega
theorem Q0O {W x:World} {r:Option Nat} (h:W.drew.grownBy x r):W.grownBy x r:=⟨h.os,h.tape,h.output,h.size,h.block⟩
theorem RdG.two {w:World} {b:Nat} {l:List (Int × Int)} (h:RdG w (some ⟨b,0,none⟩) l) {i:Nat} (hi:i < l.length):w.cell? ⟨b,i * 2,none⟩=some (.int .i64 (l.getD i (0,0)).1)∧w.cell? ⟨b,i * 2+1,none⟩=some (.int .i64 (l.getD i (0,0)).2):=by
 rcases h with h|⟨b',off,ho,_,r⟩
 ·rw [h] at hi;simp at hi
 ·injection ho with ho
  injection ho with e1 e2
  subst e1 e2
  simpa using r i hi
theorem InA2.rows16 {lo hi:Nat} {w:World} {i l:Int} {o1 o2:Option Addr} (h:InA2 lo hi w (agt i l false (.slice o1 16 16) (.slice o2 16 16)) ⟨i,l,false,Q1k,Q1k⟩):∃gc gt,o1=some ⟨gc,0,none⟩∧o2=some ⟨gt,0,none⟩∧lo≤gc∧lo≤gt∧Row w gc 0 Q1k∧Row w gt 0 Q1k∧gc < w.heap.size∧gt < w.heap.size:=by
 obtain ⟨vc,vt,e,h1,h2⟩:=h
 simp only [Value.agg.injEq,Array.mk.injEq,List.cons.injEq,and_true,true_and] at e
 obtain ⟨rfl,rfl⟩:=e
 obtain ⟨gc,rfl⟩:∃gc,o1=some ⟨gc,0,none⟩:=by
  rcases h1.1.2 with ⟨h,_⟩|⟨g,cap,cur,h,_⟩
  ·injection h with _ e2;cases e2
  ·injection h with e1;exact ⟨g,e1⟩
 obtain ⟨gt,rfl⟩:∃gt,o2=some ⟨gt,0,none⟩:=by
  rcases h2.1.2 with ⟨h,_⟩|⟨g,cap,cur,h,_⟩
  ·injection h with _ e2;cases e2
  ·injection h with e1;exact ⟨g,e1⟩
 have k1:=h1.1.lt gc rfl
 have k2:=h2.1.lt gt rfl
 exact ⟨gc,gt,rfl,rfl,k1.1,k2.1,fun i hi j hj=> Q0n h1.1 rfl i hi j hj,fun i hi j hj=> Q0n h2.1 rfl i hi j hj,k1.2,k2.2⟩
theorem AInv.dr {k B R:Nat} {w0 x:World} {m:Am} {bc fc cc bt ft ct:Nat} (h:AInv k B R w0 x m bc fc cc bt ft ct) (hk:k < w0.heap.size) (hB:w0.heap.size≤B) (hRB:R < B) (z:Bool):AInv k B R w0 (x.setCell ⟨B,2,none⟩ (.bool z)) ⟨m.id,m.lim,z,m.c,m.t⟩ bc fc cc bt ft ct:=by
 have hb:Below B x (x.setCell ⟨B,2,none⟩ (.bool z)):=(Below.refl _ _).setCell (p:=⟨B,2,none⟩) (Kaq _) _
 have hst:=Q0s x B 2 (.bool z)
 have n1:=h.nec
 have n2:=h.net
 exact ⟨h.okc,h.okt,h.cur.below (hb.mono (by omega)),Q10 x B 2 _ _ _ h.box,(hb.block R hRB).trans h.res,by simpa using h.ltc,by simpa using h.ltt,h.gec,h.get,n1,n2,h.rdc.step hst h.ltc (by omega),h.rdt.step hst h.ltt (by omega),Q0h h.gr hb hB⟩
theorem AInv.handled {k B:Nat} {w x y:World} {m:Am} {bc fc cc bt ft ct bc2 fc2 cc2 bt2 ft2 ct2:Nat} {now a p f s sb sf:Int} {q gl:Nat} {st:Int} (h:AInv k B w.heap.size w x m bc fc cc bt ft ct) (hk:k < w.heap.size) (hB:w.heap.size < B) (hf:Q0c a p=true) (hn:0≤now∧now≤100000) (hs:0≤s∧s≤65535) (hb:Below x.heap.size x y) (lc:bc2 < y.heap.size) (lt:bt2 < y.heap.size) (rc:Row y bc2 fc2 (hdC m now a p f s sb sf q gl st)) (rt:Row y bt2 ft2 (hdT m now a p f sb sf q gl st)) (oc:bc2=bc∨x.heap.size≤bc2) (ot:bt2=bt∨x.heap.size≤bt2):
  AInv k B w.heap.size w (((((y.setCell ⟨B,0,none⟩ (.int .i64 m.id)).setCell ⟨B,1,none⟩ (.int .i64 m.lim)).setCell ⟨B,2,none⟩ (.bool m.dr)).setCell ⟨B,3,none⟩ (.slice (some ⟨bc2,fc2,none⟩) m.c.length cc2)).setCell ⟨B,4,none⟩ (.slice (some ⟨bt2,ft2,none⟩) m.t.length ct2)) ⟨m.id,m.lim,m.dr,hdC m now a p f s sb sf q gl st,hdT m now a p f sb sf q gl st⟩ bc2 fc2 cc2 bt2 ft2 ct2:=by
 have h2:=h.store (m2:=⟨m.id,m.lim,m.dr,hdC m now a p f s sb sf q gl st,hdT m now a p f sb sf q gl st⟩) (cc2:=cc2) (ct2:=ct2) hk (Nat.le_of_lt hB) hB (Kaq _) (Q7T h.okc hf hn (by omega)) (Q7Q h.okt hf hn) hb lc lt rc rt oc ot
 simpa only [Q5b,Q5u] using h2
theorem Q7d {W:World} {base e n k:Nat} {T:TypeId} {g c:Nat} {xs:List Value} (h:W.ownsRow base T e (.slice (some ⟨g,0,none⟩) n c) k xs) {P:Nat} (hne:g≠P) (j:Nat) (u:Value):(W.setCell ⟨P,j,none⟩ u).ownsRow base T e (.slice (some ⟨g,0,none⟩) n c) k xs:=by
 rcases h.2 with ⟨h1,h2⟩|⟨g',cap,cur,h1,h2,h3,h4⟩
 ·cases h1
 ·injection h1 with e1 e2 e3
  injection e1 with e1
  injection e1 with e1
  subst e1
  exact ⟨h.1,.inr ⟨g,cap,cur,by rw [e2,e3],h2,(Below.heap_setCell W ⟨P,j,none⟩ u g hne).trans h3,h4⟩⟩
theorem Q5J (k:Nat) (w:World) (hc:isCur k w) (hk:k < w.heap.size):
  Calls Try.prog 44 #[.pointer (some ⟨k,0,none⟩)] w fun e w'=> ∃v' m,e=.returned v'∧(m.c.length≤16∧m.t.length≤16∧0 < m.c.length∧0 < m.t.length)∧InA w.heap.size w'.heap.size w' v' m∧isCur k w'∧w.grownBy w' (some k):=by
 obtain ⟨W0,hW0⟩:∃W,w.alloc (.cells #[.int .i64 0,.int .i64 0,.bool false,.slice none 0 0,.slice none 0 0] 27)=W:=⟨_,rfl⟩
 have hb0:Below w.heap.size w W0:=by rw [←hW0];exact (Below.refl _ _).alloc (Kaq _) _
 have hg0:w.grownBy W0 (some k):=by rw [←hW0];exact World.grownBy_alloc w _ _
 have HR0:Hid (W0.heap[w.heap.size]? =some (.cells #[.int .i64 0,.int .i64 0,.bool false,.slice none 0 0,.slice none 0 0] 27 (0,0))):=by rw [←hW0];exact World.alloc_heap_new w _
 have hs0:w.heap.size < W0.heap.size:=by rw [←hW0];simp
 have HC0:=Q00 (hc.below (hb0.mono hk))
 have HG0:=Q00 hg0
 clear hb0 hg0 hc
 go_enter Try.func44,Try.ntmps44
 go_wp2_with fail
 refine (Q0g k 4 W0 HC0.out (by decide) (by decide)).mono ?_
 rintro e v1 ⟨x1,rfl,x10,x14,hc1,hg1⟩
 have HC1:=Q00 hc1
 have HG1:=Q00 (Q08 HG0.out hg1)
 have HR1:Hid (v1.heap[w.heap.size]? =some (.cells #[.int .i64 0,.int .i64 0,.bool false,.slice none 0 0,.slice none 0 0] 27 (0,0))):=(hg1.block _ hs0 (by simp;omega)).trans HR0.out
 have hs1:w.heap.size < v1.heap.size:=Kbq hs0 hg1.size
 clear hc1 hg1 HR0 HC0 HG0 hW0 hs0
 go_wp2_with fail
 refine (Q0g k 4 v1 HC1.out (by decide) (by decide)).mono ?_
 rintro e v2 ⟨x2,rfl,x20,x24,hc2,hg2⟩
 have HC2:=Q00 hc2
 have HG2:=Q00 (Q08 HG1.out hg2)
 have HR2:Hid (v2.heap[w.heap.size]? =some (.cells #[.int .i64 0,.int .i64 0,.bool false,.slice none 0 0,.slice none 0 0] 27 (0,0))):=(hg2.block _ hs1 (by simp;omega)).trans HR1.out
 have hs2:w.heap.size < v2.heap.size:=Kbq hs1 hg2.size
 clear hc2 hg2 HR1 HC1 HG1 hs1
 go_wp2_with fail
 refine (Q6z x1 x2 v2).mono ?_
 rintro e v3 ⟨o1,o2,rfl,hin,hb3⟩
 obtain ⟨gc,gt,rfl,rfl,hgc,hgt,rc,rt,lc,lt⟩:=InA2.rows16 hin
 have hs3:=hb3.size
 obtain ⟨W4,hW4⟩:∃W,v3.alloc (.cells #[.int .i64 x1,.int .i64 x2,.bool false,.slice (some ⟨gc,0,none⟩) 16 16,.slice (some ⟨gt,0,none⟩) 16 16] 27)=W:=⟨_,rfl⟩
 have hb4:Below v3.heap.size v3 W4:=by rw [←hW4];exact (Below.refl _ _).alloc (Kaq _) _
 have HI4:Hid (AInv k v3.heap.size w.heap.size w W4 ⟨x1,x2,false,Q1k,Q1k⟩ gc 0 16 gt 0 16):=by
  have h24:Below v2.heap.size v2 W4:=hb3.trans (hb4.mono hs3)
  refine ⟨Q5E,Q5E,HC2.out.below (h24.mono (by omega)),by rw [←hW4];exact World.alloc_heap_new v3 _,(h24.block _ hs2).trans HR2.out,Kbq lc hb4.size,Kbq lt hb4.size,by omega,by omega,by omega,by omega,rc.kept hb4 lc,rt.kept hb4 lt,Q0h HG2.out h24 (by omega)⟩
 have hBw:w.heap.size < v3.heap.size:=by omega
 generalize hBq:v3.heap.size=B at *
 clear hb3 hb4 hin rc rt lc lt hgc hgt HR2 HC2 HG2 hs2 hs3
 go_wp2_with fail
 refine (Q0g k 10 W4 HI4.out.cur (by decide) (by decide)).mono ?_
 rintro e v5 ⟨n2,rfl,n0,n10,hc5,hg5⟩
 have HI5:=Q00 (HI4.out.draw0 hk (Nat.le_of_lt hBw) (Kaq _) hg5 hc5)
 clear hc5 hg5 HI4 hW4 hBq
 go_wp2
 go_loopw [5] (fun iv wr=> ∃(i:Nat) (m:Am) (bc fc cc bt ft ct:Nat),(i:Int)≤n2∧iv=.int .i64 i∧Hid (AInv k B w.heap.size w wr m bc fc cc bt ft ct))
  (fun iv _=> n2.toNat - (intOf iv).toNat)
 case atStart=> exact ⟨0,_,gc,0,16,gt,0,16,n0,rfl,HI5⟩
 case round=>
  clear HI5
  obtain ⟨i,m,bc,fc,cc,bt,ft,ct,hi,rfl,HI⟩:=hrel
  obtain ⟨q1,q2,q3⟩:1≤m.c.length∧m.c.length≤16∧(1≤m.t.length∧m.t.length≤16):=⟨(Q0d.1 HI.out.okc).1,(Q0d.1 HI.out.okc).2.1,(Q0d.1 HI.out.okt).1,(Q0d.1 HI.out.okt).2.1⟩
  have hkr:=HI.out.size hk
  have l1:=HI.out.ltc
  have l2:=HI.out.ltt
  have l3:=HI.out.boxlt
  by_cases hlt:(i:Int) < n2
  ·go_wp2_with fail
   refine (Q4k k wr HI.out.cur hkr).mono ?_
   rintro e y1 ⟨v,⟨a,b,f,s,L,g,pl,st⟩,rfl,⟨vl,vg,rfl,ob,og⟩,hok,_,_,_,hc1,hg1⟩
   obtain ⟨ol,cl,e1,_⟩:=ob.open
   subst e1
   have hcok:=Q3q (show Q0q a b f s L.length g pl st=true from hok)
   obtain ⟨q,hq⟩:∃q:Nat,pl=q:=⟨pl.toNat,by omega⟩
   subst hq
   obtain ⟨bg,cg,e2,hgb⟩:∃bg cg,vg=.slice (some ⟨bg,0,none⟩) g.length cg∧wr.heap.size≤bg:=by
    rcases og.2 with ⟨h1,h2⟩|⟨bg,cg,cur,h1,h2,_⟩
    ·simp only at h2;omega
    ·exact ⟨bg,cg,h1,h2⟩
   subst e2
   have hgl:=(og.lt bg rfl).2
   have HFL:=Q00 (Q2F hcok.1)
   have HSQ:Hid (0≤s∧s≤65535):=by have:=Q0P.1 hcok.1;unfold Hid;omega
   have hql:q < g.length:=by omega
   have hgn24:g.length≤24:=by omega
   have HI1:=Q00 (HI.out.draw0 hk (Nat.le_of_lt hBw) (Kaq _) hg1 hc1)
   have HS0:=Q00 (show ownG y1 wr.heap.size (.slice (some ⟨bg,0,none⟩) g.length cg) g from og)
   have s1:=hg1.size
   obtain ⟨ln,hln⟩:∃z,L.length=z:=⟨_,rfl⟩
   obtain ⟨gn,hgn⟩:∃z,g.length=z:=⟨_,rfl⟩
   have hq24:0≤st∧st≤100000:=by omega
   have HQL:=Q00 hql
   have hgn0:gn≤24:=by omega
   have hqn:q < gn:=by omega
   have HGN:=Q00 hgn
   rw [hgn] at HS0
   rw [hln,hgn]
   clear hc1 hg1 ob og hok hcok hln hgn hql hgn24
   obtain ⟨Y2,hY2⟩:∃W,y1.alloc (.cells #[.int .i64 a,.int .i64 b,.int .i64 f,.int .i64 s,.slice ol ln cl,.slice (some ⟨bg,0,none⟩) gn cg,.int .i64 (q:Int),.int .i64 st] 34)=W:=⟨_,rfl⟩
   have hb2:Below y1.heap.size y1 Y2:=by rw [←hY2];exact (Below.refl _ _).alloc (Kaq _) _
   have HC2:Hid (Y2.heap[y1.heap.size]? =some (.cells #[.int .i64 a,.int .i64 b,.int .i64 f,.int .i64 s,.slice ol ln cl,.slice (some ⟨bg,0,none⟩) gn cg,.int .i64 (q:Int),.int .i64 st] 34 (0,0))):=by rw [←hY2];exact World.alloc_heap_new y1 _
   have HI2:=Q00 (HI1.out.below hb2 (by omega) (by omega) (by omega) (by omega) (by omega) (by omega))
   have HS2:=Q00 (Q0a HS0.out hb2)
   have hz2:y1.heap.size < Y2.heap.size:=by rw [←hY2];simp
   clear hb2 HI1 HS0 HI
   go_wp2_with fail
   refine (Q0g k 4 Y2 HI2.out.cur (by decide) (by decide)).mono ?_
   rintro e y3 ⟨x3,rfl,x30,x34,hc3,hg3⟩
   have HI3:=Q00 (HI2.out.draw0 hk (Nat.le_of_lt hBw) (Kaq _) hg3 hc3)
   have HC3:=Q00 ((hg3.block _ hz2 (by simp;omega)).trans HC2.out)
   have HS3:=Q00 (World.ownsRow.kept HS2.out hg3 (.inr (by simp [Value.ownBlock];omega)))
   have s3:=hg3.size
   clear hc3 hg3 HI2 HC2 HS2 hY2
   generalize hX:y1.heap.size=X at *
   obtain ⟨c0,c1,c2,c3,c4,c5,c6,c7,cf⟩:=Q1D HC3.out
   have f7:=cf 7
   obtain ⟨Y4,hY4⟩:∃W,y3.setCell ⟨X,7,none⟩ (.int .i64 x3)=W:=⟨_,rfl⟩
   have hb4:Below X y3 Y4:=by rw [←hY4];exact (Below.refl _ _).setCell (p:=⟨X,7,none⟩) (Kaq _) _
   have HC4:Hid (Y4.heap[X]? =some (.cells #[.int .i64 a,.int .i64 b,.int .i64 f,.int .i64 s,.slice ol ln cl,.slice (some ⟨bg,0,none⟩) gn cg,.int .i64 (q:Int),.int .i64 x3] 34 (0,0))):=by rw [←hY4];exact Q10 y3 X 7 _ _ _ HC3.out
   have HI4:=Q00 (HI3.out.below hb4 (by omega) (by omega) (by omega) (by omega) (by omega) (by omega))
   have HS4:Hid (Y4.ownsRow wr.heap.size 41 2 (.slice (some ⟨bg,0,none⟩) gn cg) g.length (Q3H g)):=by rw [←hY4];exact Q7d HS3.out (by omega) 7 _
   have s4:Y4.heap.size=y3.heap.size:=by rw [←hY4];simp
   clear hb4 HI3 HC3 HS3
   go_wp2_with fail
   clear c0 c1 c2 c3 c4 c5 c6 c7 cf f7
   refine (Q0Y k 3 Y4 HI4.out.cur (by decide) (by decide)).mono ?_
   rintro e y5 ⟨z,rfl,hc5,hg5⟩
   have HI5:=Q00 (HI4.out.draw0 hk (Nat.le_of_lt hBw) (Kaq _) hg5 hc5)
   have HC5:=Q00 ((hg5.block _ (show X < Y4.heap.size by omega) (by simp;omega)).trans HC4.out)
   have HS5:=Q00 (World.ownsRow.kept HS4.out hg5 (.inr (by simp [Value.ownBlock];omega)))
   have s5:=hg5.size
   clear hc5 hg5 HI4 HC4 HS4 hY4
   cases z with
   |true=>
    have HSC:=Q00 (RdG.two (ownG.rd HS5.out) HQL.out)
    obtain ⟨sb,hsb⟩:∃z,(g.getD q (0,0)).1=z:=⟨_,rfl⟩
    obtain ⟨sf,hsf⟩:∃z,(g.getD q (0,0)).2=z:=⟨_,rfl⟩
    rw [hsb,hsf] at HSC
    clear hsb hsf
    have eIC:=HI5.out.okc
    obtain ⟨k0,k1,k2,k3,k4,kf⟩:=HI5.out.cells
    obtain ⟨c0,c1,c2,c3,c4,c5,c6,c7,cf⟩:=Q1D HC5.out
    clear eIC
    go_wp2
    go_region_with (first|(go_at_call 45;have hc_:=Q0g k 9 y5.drew HI5.out.curd (by decide) (by decide);with_reducible refine hc_.mono ?_;clear hc_;rintro e x0 ⟨av,rfl,av0,av9,hcx,hgx⟩;have I0:=Q00 (HI5.out.draw hk (Nat.le_of_lt hBw) (Kaq _) hgx hcx);have C0:=Q00 (((Q0O hgx).block X (show X < y5.heap.size by omega) (by simp;omega)).trans HC5.out);have S0:=Q00 (And.intro ((Q0N (Q0O hgx) (show bg < y5.heap.size by omega) (by omega)).trans HSC.out.1) ((Q0N (Q0O hgx) (show bg < y5.heap.size by omega) (by omega)).trans HSC.out.2));have sx0:=(Q0O hgx).size;have hwp:=Q5z (4+av) (by omega) (by omega);obtain ⟨e0,e1,e2,e3,e4,ef⟩:=I0.out.cells;obtain ⟨g0,g1,g2,g3,g4,g5,g6,g7,gf⟩:=Q1D C0.out;clear hcx hgx)|(go_at_call 68;have hc_:=Q34 m bc fc cc bt ft ct (4+av) a b f s ol ln cl bg 0 gn cg q sb sf x3 x0 (by omega) (by omega) HFL.out (by omega) q2 (by omega) q3.2 I0.out.ltc I0.out.ltt I0.out.rdc I0.out.rdt (Q1s I0.out.okc) hqn (by omega) (by omega) (by rw [Nat.zero_add];exact S0.out.1) (by rw [Nat.zero_add];exact S0.out.2) (by omega) (by omega);with_reducible refine hc_.mono ?_;clear hc_;rintro e x9 ⟨bc2,fc2,cc2,bt2,ft2,ct2,rfl,p1,p2,p3,p4,hb,p5,p6⟩;have lB:=I0.out.boxlt;replace e0:=(hb.cell (p:=⟨B,0,none⟩) lB).trans e0;replace e1:=(hb.cell (p:=⟨B,1,none⟩) lB).trans e1;replace e2:=(hb.cell (p:=⟨B,2,none⟩) lB).trans e2;replace e3:=(hb.cell (p:=⟨B,3,none⟩) lB).trans e3;replace e4:=(hb.cell (p:=⟨B,4,none⟩) lB).trans e4;have ff0:=(hb.frozen (p:=⟨B,0,none⟩) lB).trans (ef 0);have ff1:=(hb.frozen (p:=⟨B,1,none⟩) lB).trans (ef 1);have ff2:=(hb.frozen (p:=⟨B,2,none⟩) lB).trans (ef 2);have ff3:=(hb.frozen (p:=⟨B,3,none⟩) lB).trans (ef 3);have ff4:=(hb.frozen (p:=⟨B,4,none⟩) lB).trans (ef 4);have HS:=Q00 (I0.out.handled (cc2:=cc2) (ct2:=ct2) hk hBw HFL.out (show 0≤4+av∧4+av≤100000 by omega) HSQ.out hb p1 p2 p3 p4 p5 p6);clear hb p1 p2 p3 p4 p5 p6))
    all_goals (
     go_wp2
     go_roundw
     case rel=> exact ⟨i+1,_,bc2,fc2,cc2,bt2,ft2,ct2,by omega,by go_num,HS.out⟩
     case measure=> simp [intOf];omega)
   |false=>
    have hsc:=RdG.two (ownG.rd HS5.out) HQL.out
    obtain ⟨sb0,hsb⟩:∃z,(g.getD q (0,0)).1=z:=⟨_,rfl⟩
    obtain ⟨sf,hsf⟩:∃z,(g.getD q (0,0)).2=z:=⟨_,rfl⟩
    rw [hsb,hsf] at hsc
    clear hsb hsf
    obtain ⟨d0,d1⟩:=hsc
    have h5:=HS5.out
    rw [HGN.out] at h5
    have df:=h5.frozenAt (q * 2)
    clear h5
    obtain ⟨k0,_,_,_,_,_⟩:=HI5.out.cells
    obtain ⟨_,_,_,_,_,c5,c6,_,_⟩:=Q1D HC5.out
    obtain ⟨Y6,hY6⟩:∃W,y5.setCell ⟨bg,q * 2,none⟩ (.int .i64 m.id)=W:=⟨_,rfl⟩
    have hb6:Below wr.heap.size y5 Y6:=by rw [←hY6];exact (Below.refl _ _).setCell (p:=⟨bg,q * 2,none⟩) hgb _
    have s6:Y6.heap.size=y5.heap.size:=by rw [←hY6];simp
    have HI6:=Q00 (HI5.out.below hb6 hkr l3 (by omega) l1 l2 (by omega))
    have HC6:Hid (Y6.heap[X]? =some (.cells #[.int .i64 a,.int .i64 b,.int .i64 f,.int .i64 s,.slice ol ln cl,.slice (some ⟨bg,0,none⟩) gn cg,.int .i64 (q:Int),.int .i64 x3] 34 (0,0))):=by rw [←hY6];exact (Below.heap_setCell y5 ⟨bg,q * 2,none⟩ _ X (show X≠bg by omega)).trans HC5.out
    have HSC:Hid (Y6.cell? ⟨bg,q * 2,none⟩=some (.int .i64 m.id)∧Y6.cell? ⟨bg,q * 2+1,none⟩=some (.int .i64 sf)):=by
     rw [←hY6]
     exact ⟨World.cell?_setCell_same _ _ _ d0,(World.cell?_setCell_other _ _ _ _ (by simp)).trans d1⟩
    go_wp2_with fail
    clear d0 d1 df k0 c5 c6 hb6 hY6
    have eIC:=HI6.out.okc
    obtain ⟨k0,k1,k2,k3,k4,kf⟩:=HI6.out.cells
    obtain ⟨c0,c1,c2,c3,c4,c5,c6,c7,cf⟩:=Q1D HC6.out
    clear eIC
    go_wp2
    go_region_with (first|(go_at_call 45;have hc_:=Q0g k 9 Y6.drew HI6.out.curd (by decide) (by decide);with_reducible refine hc_.mono ?_;clear hc_;rintro e x0 ⟨av,rfl,av0,av9,hcx,hgx⟩;have I0:=Q00 (HI6.out.draw hk (Nat.le_of_lt hBw) (Kaq _) hgx hcx);have C0:=Q00 (((Q0O hgx).block X (show X < Y6.heap.size by omega) (by simp;omega)).trans HC6.out);have S0:=Q00 (And.intro ((Q0N (Q0O hgx) (show bg < Y6.heap.size by omega) (by omega)).trans HSC.out.1) ((Q0N (Q0O hgx) (show bg < Y6.heap.size by omega) (by omega)).trans HSC.out.2));have sx0:=(Q0O hgx).size;have hwp:=Q5z (4+av) (by omega) (by omega);obtain ⟨e0,e1,e2,e3,e4,ef⟩:=I0.out.cells;obtain ⟨g0,g1,g2,g3,g4,g5,g6,g7,gf⟩:=Q1D C0.out;clear hcx hgx)|(go_at_call 68;have hc_:=Q34 m bc fc cc bt ft ct (4+av) a b f s ol ln cl bg 0 gn cg q m.id sf x3 x0 (by omega) (by omega) HFL.out (by omega) q2 (by omega) q3.2 I0.out.ltc I0.out.ltt I0.out.rdc I0.out.rdt (Q1s I0.out.okc) hqn (by omega) (by omega) (by rw [Nat.zero_add];exact S0.out.1) (by rw [Nat.zero_add];exact S0.out.2) (by omega) (by omega);with_reducible refine hc_.mono ?_;clear hc_;rintro e x9 ⟨bc2,fc2,cc2,bt2,ft2,ct2,rfl,p1,p2,p3,p4,hb,p5,p6⟩;have lB:=I0.out.boxlt;replace e0:=(hb.cell (p:=⟨B,0,none⟩) lB).trans e0;replace e1:=(hb.cell (p:=⟨B,1,none⟩) lB).trans e1;replace e2:=(hb.cell (p:=⟨B,2,none⟩) lB).trans e2;replace e3:=(hb.cell (p:=⟨B,3,none⟩) lB).trans e3;replace e4:=(hb.cell (p:=⟨B,4,none⟩) lB).trans e4;have ff0:=(hb.frozen (p:=⟨B,0,none⟩) lB).trans (ef 0);have ff1:=(hb.frozen (p:=⟨B,1,none⟩) lB).trans (ef 1);have ff2:=(hb.frozen (p:=⟨B,2,none⟩) lB).trans (ef 2);have ff3:=(hb.frozen (p:=⟨B,3,none⟩) lB).trans (ef 3);have ff4:=(hb.frozen (p:=⟨B,4,none⟩) lB).trans (ef 4);have HS:=Q00 (I0.out.handled (cc2:=cc2) (ct2:=ct2) hk hBw HFL.out (show 0≤4+av∧4+av≤100000 by omega) HSQ.out hb p1 p2 p3 p4 p5 p6);clear hb p1 p2 p3 p4 p5 p6))
    all_goals (
     go_wp2
     go_roundw
     case rel=> exact ⟨i+1,_,bc2,fc2,cc2,bt2,ft2,ct2,by omega,by go_num,HS.out⟩
     case measure=> simp [intOf];omega)
  ·have e:(i:Int)=n2:=by omega
   have hi2:decide ((i:Int) < n2)=false:=decide_eq_false hlt
   clear e
   go_wp2_with fail
   refine (Q0Y k 9 wr HI.out.cur (by decide) (by decide)).mono ?_
   rintro e v6 ⟨z,rfl,hc6,hg6⟩
   have HI6:=Q00 (HI.out.draw0 hk (Nat.le_of_lt hBw) (Kaq _) hg6 hc6)
   clear hc6 hg6 HI
   obtain ⟨k0,k1,k2,k3,k4,kf⟩:=HI6.out.cells
   have f2:=kf 2
   obtain ⟨Y7,hY7⟩:∃W,v6.setCell ⟨B,2,none⟩ (.bool z)=W:=⟨_,rfl⟩
   have HI7:Hid (AInv k B w.heap.size w Y7 ⟨m.id,m.lim,z,m.c,m.t⟩ bc fc cc bt ft ct):=by rw [←hY7];exact HI6.out.dr hk (Nat.le_of_lt hBw) hBw z
   have HRA:Hid (RdA Y7.heap.size Y7 (agt m.id m.lim z (.slice (some ⟨bc,fc,none⟩) m.c.length cc) (.slice (some ⟨bt,ft,none⟩) m.t.length ct)) ⟨m.id,m.lim,z,m.c,m.t⟩):=⟨_,_,rfl,⟨_,_,rfl,.inr ⟨bc,fc,rfl,HI7.out.ltc,HI7.out.rdc⟩⟩,⟨_,_,rfl,.inr ⟨bt,ft,rfl,HI7.out.ltt,HI7.out.rdt⟩⟩⟩
   have hown:=Q6M _ _ Y7 HRA.out (by simp only;omega) (by simp only;omega) (by simp only;omega)
   obtain ⟨j0,j1,j2,j3,j4,jf⟩:=HI7.out.cells
   clear HI6
   go_wp2_with fail
   refine hown.mono ?_
   rintro e y ⟨v',rfl,hin,hby⟩
   have hres:=(hby.block _ HI7.out.reslt).trans HI7.out.res
   obtain ⟨vc,vt,mid,rfl,i1,i2,m1,m2⟩:=hin
   obtain ⟨oc,cc2,rfl,_⟩:=InL.rd (L:=Q0e) i1
   obtain ⟨ot,ct2,rfl,_⟩:=InL.rd (L:=Q0e) i2
   have r0:=Q02 hres 0 _ rfl
   have r1:=Q02 hres 1 _ rfl
   have r2:=Q02 hres 2 _ rfl
   have r3:=Q02 hres 3 _ rfl
   have r4:=Q02 hres 4 _ rfl
   have rf0:=Q0f hres 0
   have rf1:=Q0f hres 1
   have rf2:=Q0f hres 2
   have rf3:=Q0f hres 3
   have rf4:=Q0f hres 4
   have hrs:=HI7.out.reslt
   have h7:=HI7.out.gr.size
   have HE:=Q00 (Q07 (hby.mono (show w.heap.size≤Y7.heap.size from h7)) (Kaq w.heap.size) (.int .i64 m.id) (.int .i64 m.lim) (.bool z) (.slice oc m.c.length cc2) (.slice ot m.t.length ct2))
   have HST:=Q00 (Q04 y w.heap.size (.int .i64 m.id) (.int .i64 m.lim) (.bool z) (.slice oc m.c.length cc2) (.slice ot m.t.length ct2))
   have hsz:=Q18 y w.heap.size (.int .i64 m.id) (.int .i64 m.lim) (.bool z) (.slice oc m.c.length cc2) (.slice ot m.t.length ct2)
   have HSZ:=Q00 hsz
   have HIN:=Q00 (And.intro i1 (And.intro i2 (And.intro m1 m2)))
   have H7:=Q00 (And.intro HI7.out.cur HI7.out.gr)
   clear hown hby hres j0 j1 j2 j3 j4 jf k0 k1 k2 k3 k4 kf f2 HI7 HRA i1 i2 m1 m2 hsz hY7
   go_wp2
   refine bodyPost_ret (v:=agt m.id m.lim z (.slice oc m.c.length cc2) (.slice ot m.t.length ct2)) (by simp [results,Try.results44,go_sem,r0,r1,r2,r3,r4]) rfl ⟨_,⟨m.id,m.lim,z,m.c,m.t⟩,rfl,⟨q2,q3.2,q1,q3.1⟩, ?_,H7.out.1.below (HE.out.mono hk),Q0h H7.out.2 HE.out (Kaq _)⟩
   obtain ⟨i1,i2,m1,m2⟩:=HIN.out
   exact InA.mono (InA.step ⟨_,_,mid,rfl,i1,i2,m1,m2⟩ HST.out (.inl (by omega))) h7 (by rw [HSZ.out];exact Kaq _)
def RowB (B w0:Nat) (w:World) (o:Option Addr) (c:Nat) (m:List Sl):Prop:=∃lo hi,InS lo hi w (.slice o m.length c) m∧w0 < lo∧(hi≤B∨B < lo)
theorem RowB.step {B w0 a b:Nat} {w w':World} {o:Option Addr} {c:Nat} {m:List Sl} (h:RowB B w0 w o c m) (s:Stp a b w w') (hd:b≤w0+1∨(a=B∧b=B+1)):RowB B w0 w' o c m:=by
 obtain ⟨lo,hi,h1,h2,h3⟩:=h
 exact ⟨lo,hi,InRow.step h1 s (by omega),h2,h3⟩
structure GInv (k B R:Nat) (w0 wr:World) (m:Am) (oc:Option Addr) (cc:Nat) (ot:Option Addr) (ct:Nat):Prop where
 lnc:1≤m.c.length∧m.c.length≤16
 lnt:1≤m.t.length∧m.t.length≤16
 cur:isCur k wr
 box:wr.heap[B]? =some (.cells #[.int .i64 m.id,.int .i64 m.lim,.bool m.dr,.slice oc m.c.length cc,.slice ot m.t.length ct] 27 (0,0))
 res:wr.heap[R]? =some (.cells #[.int .i64 0,.int .i64 0,.bool false,.slice none 0 0,.slice none 0 0] 27 (0,0))
 rc:RowB B w0.heap.size wr oc cc m.c
 rt:RowB B w0.heap.size wr ot ct m.t
 gr:w0.grownBy wr (some k)
theorem GInv.boxlt {k B R:Nat} {w0 wr:World} {m:Am} {oc:Option Addr} {cc:Nat} {ot:Option Addr} {ct:Nat} (h:GInv k B R w0 wr m oc cc ot ct):B < wr.heap.size:=(Array.getElem?_eq_some_iff.1 h.box).1
theorem GInv.reslt {k B R:Nat} {w0 wr:World} {m:Am} {oc:Option Addr} {cc:Nat} {ot:Option Addr} {ct:Nat} (h:GInv k B R w0 wr m oc cc ot ct):R < wr.heap.size:=(Array.getElem?_eq_some_iff.1 h.res).1
theorem GInv.draw {k B R:Nat} {w0 wr:World} {m:Am} {oc:Option Addr} {cc:Nat} {ot:Option Addr} {ct:Nat} {x:World} (h:GInv k B R w0 wr m oc cc ot ct) (hk:k < w0.heap.size) (hB:w0.heap.size≤B) (hR:w0.heap.size≤R) (hg:wr.grownBy x (some k)) (hc:isCur k x):GInv k B R w0 x m oc cc ot ct:=by
 have hb1:=h.boxlt
 have hr1:=h.reslt
 have hs:Stp k (k+1) wr x:=Stp.grown hg (fun b e=> by injection e with e;omega)
 exact ⟨h.lnc,h.lnt,hc,(hg.block B hb1 (by simp;omega)).trans h.box,(hg.block R hr1 (by simp;omega)).trans h.res,h.rc.step hs (.inl (by omega)),h.rt.step hs (.inl (by omega)),Q08 h.gr hg⟩
theorem GInv.below {k B R:Nat} {w0 wr:World} {m:Am} {oc:Option Addr} {cc:Nat} {ot:Option Addr} {ct:Nat} {x:World} (h:GInv k B R w0 wr m oc cc ot ct) (hk:k < w0.heap.size) (hb:Below wr.heap.size wr x):GInv k B R w0 x m oc cc ot ct:=by
 have hb1:=h.boxlt
 have hr1:=h.reslt
 have hs:Stp 0 0 wr x:=Stp.of hb
 have h0:=h.gr.size
 exact ⟨h.lnc,h.lnt,h.cur.below (hb.mono (by omega)),(hb.block B hb1).trans h.box,(hb.block R hr1).trans h.res,h.rc.step hs (.inl (Kcq _)),h.rt.step hs (.inl (Kcq _)),Q0h h.gr hb h0⟩
theorem GInv.cells {k B R:Nat} {w0 wr:World} {m:Am} {oc:Option Addr} {cc:Nat} {ot:Option Addr} {ct:Nat} (h:GInv k B R w0 wr m oc cc ot ct):wr.cell? ⟨B,0,none⟩=some (.int .i64 m.id)∧wr.cell? ⟨B,1,none⟩=some (.int .i64 m.lim)∧wr.cell? ⟨B,2,none⟩=some (.bool m.dr)∧wr.cell? ⟨B,3,none⟩=some (.slice oc m.c.length cc)∧wr.cell? ⟨B,4,none⟩=some (.slice ot m.t.length ct)∧∀j,wr.frozen? ⟨B,j,none⟩=false:=
 ⟨Q02 h.box 0 _ rfl,Q02 h.box 1 _ rfl,Q02 h.box 2 _ rfl,Q02 h.box 3 _ rfl,Q02 h.box 4 _ rfl,fun j=> Q0f h.box j⟩
theorem GInv.zeros {k B R:Nat} {w0 wr:World} {m:Am} {oc:Option Addr} {cc:Nat} {ot:Option Addr} {ct:Nat} (h:GInv k B R w0 wr m oc cc ot ct):wr.cell? ⟨R,0,none⟩=some (.int .i64 0)∧wr.cell? ⟨R,1,none⟩=some (.int .i64 0)∧wr.cell? ⟨R,2,none⟩=some (.bool false)∧wr.cell? ⟨R,3,none⟩=some (.slice none 0 0)∧wr.cell? ⟨R,4,none⟩=some (.slice none 0 0)∧∀j,wr.frozen? ⟨R,j,none⟩=false:=
 ⟨Q02 h.res 0 _ rfl,Q02 h.res 1 _ rfl,Q02 h.res 2 _ rfl,Q02 h.res 3 _ rfl,Q02 h.res 4 _ rfl,fun j=> Q0f h.res j⟩
theorem GInv.base {k B R:Nat} {w0 wr:World} {m:Am} {oc:Option Addr} {cc:Nat} {ot:Option Addr} {ct:Nat} (h:GInv k B R w0 wr m oc cc ot ct) (hk:k < w0.heap.size) (hB:w0.heap.size≤B) (hRB:R < B) (j:Nat) (u:Value):isCur k (wr.setCell ⟨B,j,none⟩ u)∧(wr.setCell ⟨B,j,none⟩ u).heap[R]? =some (.cells #[.int .i64 0,.int .i64 0,.bool false,.slice none 0 0,.slice none 0 0] 27 (0,0))∧RowB B w0.heap.size (wr.setCell ⟨B,j,none⟩ u) oc cc m.c∧RowB B w0.heap.size (wr.setCell ⟨B,j,none⟩ u) ot ct m.t∧w0.grownBy (wr.setCell ⟨B,j,none⟩ u) (some k):=by
 have hb:Below B wr (wr.setCell ⟨B,j,none⟩ u):=(Below.refl _ _).setCell (p:=⟨B,j,none⟩) (Kaq _) _
 have hst:=Q0s wr B j u
 exact ⟨h.cur.below (hb.mono (by omega)),(hb.block R hRB).trans h.res,h.rc.step hst (.inr ⟨rfl,rfl⟩),h.rt.step hst (.inr ⟨rfl,rfl⟩),Q0h h.gr hb hB⟩
theorem GInv.set0 {k B R:Nat} {w0 wr:World} {m:Am} {oc:Option Addr} {cc:Nat} {ot:Option Addr} {ct:Nat} (h:GInv k B R w0 wr m oc cc ot ct) (hk:k < w0.heap.size) (hB:w0.heap.size≤B) (hRB:R < B) (z:Int):GInv k B R w0 (wr.setCell ⟨B,0,none⟩ (.int .i64 z)) ⟨z,m.lim,m.dr,m.c,m.t⟩ oc cc ot ct:=by
 obtain ⟨h1,h2,h3,h4,h5⟩:=h.base hk hB hRB 0 (.int .i64 z)
 exact ⟨h.lnc,h.lnt,h1,Q10 wr B 0 _ _ _ h.box,h2,h3,h4,h5⟩
theorem GInv.set1 {k B R:Nat} {w0 wr:World} {m:Am} {oc:Option Addr} {cc:Nat} {ot:Option Addr} {ct:Nat} (h:GInv k B R w0 wr m oc cc ot ct) (hk:k < w0.heap.size) (hB:w0.heap.size≤B) (hRB:R < B) (z:Int):GInv k B R w0 (wr.setCell ⟨B,1,none⟩ (.int .i64 z)) ⟨m.id,z,m.dr,m.c,m.t⟩ oc cc ot ct:=by
 obtain ⟨h1,h2,h3,h4,h5⟩:=h.base hk hB hRB 1 (.int .i64 z)
 exact ⟨h.lnc,h.lnt,h1,Q10 wr B 1 _ _ _ h.box,h2,h3,h4,h5⟩
theorem GInv.set3 {k B R:Nat} {w0 wr:World} {m:Am} {oc:Option Addr} {cc:Nat} {ot:Option Addr} {ct:Nat} (h:GInv k B R w0 wr m oc cc ot ct) (hk:k < w0.heap.size) (hB:w0.heap.size≤B) (hRB:R < B) {l:List Sl} {o:Option Addr} {c:Nat} (hl:1≤l.length∧l.length≤16) (hr:RowB B w0.heap.size wr o c l):GInv k B R w0 (wr.setCell ⟨B,3,none⟩ (.slice o l.length c)) ⟨m.id,m.lim,m.dr,l,m.t⟩ o c ot ct:=by
 obtain ⟨h1,h2,h3,h4,h5⟩:=h.base hk hB hRB 3 (.slice o l.length c)
 exact ⟨hl,h.lnt,h1,Q10 wr B 3 _ _ _ h.box,h2,hr.step (Q0s wr B 3 _) (.inr ⟨rfl,rfl⟩),h4,h5⟩
theorem GInv.set4 {k B R:Nat} {w0 wr:World} {m:Am} {oc:Option Addr} {cc:Nat} {ot:Option Addr} {ct:Nat} (h:GInv k B R w0 wr m oc cc ot ct) (hk:k < w0.heap.size) (hB:w0.heap.size≤B) (hRB:R < B) {l:List Sl} {o:Option Addr} {c:Nat} (hl:1≤l.length∧l.length≤16) (hr:RowB B w0.heap.size wr o c l):GInv k B R w0 (wr.setCell ⟨B,4,none⟩ (.slice o l.length c)) ⟨m.id,m.lim,m.dr,m.c,l⟩ oc cc o c:=by
 obtain ⟨h1,h2,h3,h4,h5⟩:=h.base hk hB hRB 4 (.slice o l.length c)
 exact ⟨h.lnc,hl,h1,Q10 wr B 4 _ _ _ h.box,h2,h3,hr.step (Q0s wr B 4 _) (.inr ⟨rfl,rfl⟩),h5⟩
def RowA (w0:Nat) (w:World) (o:Option Addr) (c:Nat) (m:List Sl):Prop:=∃lo hi,InS lo hi w (.slice o m.length c) m∧w0 < lo
theorem Q7W {B w0:Nat} {w w':World} {o:Option Addr} {c:Nat} {l:List Sl} (h:RowB B w0 w o c l) (s:Stp w0 (w0+1) w w'):RowA w0 w' o c l:=by
 obtain ⟨lo,hi,h1,h2,h3⟩:=h
 exact ⟨lo,hi,InRow.step h1 s (.inl h2),h2⟩
theorem RowA.step {w0 a b:Nat} {w w':World} {o:Option Addr} {c:Nat} {l:List Sl} (h:RowA w0 w o c l) (s:Stp a b w w') (hd:b≤w0+1):RowA w0 w' o c l:=by
 obtain ⟨lo,hi,h1,h2⟩:=h
 exact ⟨lo,hi,InRow.step h1 s (.inl (by omega)),h2⟩
theorem RowA.kept {w0:Nat} {w w':World} {o:Option Addr} {c:Nat} {l:List Sl} (h:RowA w0 w o c l) (hb:Below w.heap.size w w'):RowA w0 w' o c l:=h.step (Stp.of (lo:=0) (hi:=0) hb) (Kcq _)
theorem RowA.rd {w0:Nat} {w:World} {o:Option Addr} {c:Nat} {l:List Sl} (h:RowA w0 w o c l):RdV Q0e w.heap.size w (.slice o l.length c) l:=by
 obtain ⟨lo,hi,h1,h2⟩:=h
 have h5:InL Q0e 84 lo w.heap.size w (.slice o l.length c) l:=⟨h1.1,fun b e=> (h1.1.lt b e).2⟩
 exact InL.rd (L:=Q0e) h5
theorem GInv.ended {k B:Nat} {w wr:World} {m:Am} {oc:Option Addr} {cc:Nat} {ot:Option Addr} {ct:Nat} (h:GInv k B w.heap.size w wr m oc cc ot ct) (hk:k < w.heap.size):
  (RowA w.heap.size (((((wr.setCell ⟨w.heap.size,0,none⟩ (.int .i64 m.id)).setCell ⟨w.heap.size,1,none⟩ (.int .i64 m.lim)).setCell ⟨w.heap.size,2,none⟩ (.bool m.dr)).setCell ⟨w.heap.size,3,none⟩ (.slice oc m.c.length cc)).setCell ⟨w.heap.size,4,none⟩ (.slice ot m.t.length ct)) oc cc m.c∧RowA w.heap.size (((((wr.setCell ⟨w.heap.size,0,none⟩ (.int .i64 m.id)).setCell ⟨w.heap.size,1,none⟩ (.int .i64 m.lim)).setCell ⟨w.heap.size,2,none⟩ (.bool m.dr)).setCell ⟨w.heap.size,3,none⟩ (.slice oc m.c.length cc)).setCell ⟨w.heap.size,4,none⟩ (.slice ot m.t.length ct)) ot ct m.t)∧isCur k (((((wr.setCell ⟨w.heap.size,0,none⟩ (.int .i64 m.id)).setCell ⟨w.heap.size,1,none⟩ (.int .i64 m.lim)).setCell ⟨w.heap.size,2,none⟩ (.bool m.dr)).setCell ⟨w.heap.size,3,none⟩ (.slice oc m.c.length cc)).setCell ⟨w.heap.size,4,none⟩ (.slice ot m.t.length ct))∧w.grownBy (((((wr.setCell ⟨w.heap.size,0,none⟩ (.int .i64 m.id)).setCell ⟨w.heap.size,1,none⟩ (.int .i64 m.lim)).setCell ⟨w.heap.size,2,none⟩ (.bool m.dr)).setCell ⟨w.heap.size,3,none⟩ (.slice oc m.c.length cc)).setCell ⟨w.heap.size,4,none⟩ (.slice ot m.t.length ct)) (some k):=by
 have hst:=Q04 wr w.heap.size (.int .i64 m.id) (.int .i64 m.lim) (.bool m.dr) (.slice oc m.c.length cc) (.slice ot m.t.length ct)
 have hb:Below w.heap.size wr _:=Q07 (Below.refl _ _) (Kaq w.heap.size) (.int .i64 m.id) (.int .i64 m.lim) (.bool m.dr) (.slice oc m.c.length cc) (.slice ot m.t.length ct)
 refine ⟨⟨?_, ?_⟩,h.cur.below (hb.mono hk),Q0h h.gr hb (Kaq _)⟩
 ·exact Q7W h.rc hst
 ·exact Q7W h.rt hst
theorem Q5O (k:Nat) (w:World) (hc:isCur k w) (hk:k < w.heap.size):
  Calls Try.prog 22 #[.pointer (some ⟨k,0,none⟩)] w fun e w'=> ∃(m:Am) (oc:Option Addr) (cc:Nat) (ot:Option Addr) (ct:Nat),e=.returned (agt m.id m.lim m.dr (.slice oc m.c.length cc) (.slice ot m.t.length ct))∧((1≤m.c.length∧m.c.length≤16)∧(1≤m.t.length∧m.t.length≤16))∧RowA w.heap.size w' oc cc m.c∧RowA w.heap.size w' ot ct m.t∧isCur k w'∧w.grownBy w' (some k):=by
 obtain ⟨W0,hW0⟩:∃W,w.alloc (.cells #[.int .i64 0,.int .i64 0,.bool false,.slice none 0 0,.slice none 0 0] 27)=W:=⟨_,rfl⟩
 have hb0:Below w.heap.size w W0:=by rw [←hW0];exact (Below.refl _ _).alloc (Kaq _) _
 have hg0:w.grownBy W0 (some k):=by rw [←hW0];exact World.grownBy_alloc w _ _
 have HR0:Hid (W0.heap[w.heap.size]? =some (.cells #[.int .i64 0,.int .i64 0,.bool false,.slice none 0 0,.slice none 0 0] 27 (0,0))):=by rw [←hW0];exact World.alloc_heap_new w _
 have hs0:w.heap.size < W0.heap.size:=by rw [←hW0];simp
 have HC0:=Q00 (hc.below (hb0.mono hk))
 have HG0:=Q00 hg0
 clear hb0 hg0 hc
 go_enter Try.func22,Try.ntmps22
 go_wp2_with fail
 refine (Q5J k W0 HC0.out (by omega)).mono ?_
 rintro e v1 ⟨v,m,rfl,⟨n1,n2,n3,n4⟩,⟨vc,vt,mid,rfl,i1,i2,m1,m2⟩,hc1,hg1⟩
 obtain ⟨oc,cc,rfl,_⟩:=InL.rd (L:=Q0e) i1
 obtain ⟨ot,ct,rfl,_⟩:=InL.rd (L:=Q0e) i2
 have hs1:=hg1.size
 obtain ⟨W2,hW2⟩:∃W,v1.alloc (.cells #[.int .i64 m.id,.int .i64 m.lim,.bool m.dr,.slice oc m.c.length cc,.slice ot m.t.length ct] 27)=W:=⟨_,rfl⟩
 have hb2:Below v1.heap.size v1 W2:=by rw [←hW2];exact (Below.refl _ _).alloc (Kaq _) _
 have HI2:Hid (GInv k v1.heap.size w.heap.size w W2 m oc cc ot ct):=
  ⟨⟨n3,n1⟩,⟨n4,n2⟩,hc1.below (hb2.mono (by omega)),by rw [←hW2];exact World.alloc_heap_new v1 _,(hb2.block _ (by omega)).trans ((hg1.block _ hs0 (by simp;omega)).trans HR0.out),⟨_,_,InRow.step i1 (Stp.of (lo:=0) (hi:=0) hb2) (.inl (Kcq _)),by omega,.inl (by omega)⟩,⟨_,_,InRow.step i2 (Stp.of (lo:=0) (hi:=0) hb2) (.inl (Kcq _)),by omega,.inl (by omega)⟩,Q0h (Q08 HG0.out hg1) hb2 (by omega)⟩
 have hBw:w.heap.size < v1.heap.size:=by omega
 generalize hBq:v1.heap.size=B at *
 clear i1 i2 m1 m2 hc1 hg1 hb2 HR0 HC0 HG0 hW0 hs0 hs1 n1 n2 n3 n4
 go_wp2_with fail
 refine (Q0Y k 8 W2 HI2.out.cur (by decide) (by decide)).mono ?_
 rintro e v3 ⟨y,rfl,hc3,hg3⟩
 have HI3:=Q00 (HI2.out.draw hk (Nat.le_of_lt hBw) (Kaq _) hg3 hc3)
 clear hc3 hg3 HI2 hW2 hBq
 cases y with
 |false=>
  obtain ⟨j0,j1,j2,j3,j4,jf⟩:=HI3.out.cells
  obtain ⟨r0,r1,r2,r3,r4,rf⟩:=HI3.out.zeros
  have rf0:=rf 0
  have rf1:=rf 1
  have rf2:=rf 2
  have rf3:=rf 3
  have rf4:=rf 4
  have HE:=Q00 (HI3.out.ended hk)
  have HLN:=Q00 (And.intro HI3.out.lnc HI3.out.lnt)
  clear jf rf HI3
  go_wp2
  refine bodyPost_ret (v:=agt m.id m.lim m.dr (.slice oc m.c.length cc) (.slice ot m.t.length ct)) (by simp [results,Try.results22,go_sem,r0,r1,r2,r3,r4]) rfl ⟨⟨m.id,m.lim,m.dr,m.c,m.t⟩,_,_,_,_,rfl,HLN.out,HE.out.1.1,HE.out.1.2,HE.out.2.1,HE.out.2.2⟩
 |true=>
  go_wp2_with fail
  refine (Q0g k 4 v3 HI3.out.cur (by decide) (by decide)).mono ?_
  rintro e v4 ⟨x,rfl,x0,x4,hc4,hg4⟩
  have HI4:=Q00 (HI3.out.draw hk (Nat.le_of_lt hBw) (Kaq _) hg4 hc4)
  clear hc4 hg4 HI3
  have hq:x=0∨x=1∨x=2∨x=3:=by omega
  have hB4:=HI4.out.boxlt
  have hk4:k < v4.heap.size:=Kbq hk HI4.out.gr.size
  rcases hq with rfl|rfl|rfl|rfl
  ·obtain ⟨W5,hW5⟩:∃W,v4.alloc (.cells #[.int .i64 (-1),.int .i64 5,.int .i64 6] 3)=W:=⟨_,rfl⟩
   have hb5:Below v4.heap.size v4 W5:=by rw [←hW5];exact (Below.refl _ _).alloc (Kaq _) _
   have HI5:=Q00 (HI4.out.below hk hb5)
   have p0:W5.cell? ⟨v4.heap.size,0,none⟩=some (.int .i64 (-1)):=by rw [←hW5];simp [go_sem]
   have p1:W5.cell? ⟨v4.heap.size,1,none⟩=some (.int .i64 5):=by rw [←hW5];simp [go_sem]
   have p2:W5.cell? ⟨v4.heap.size,2,none⟩=some (.int .i64 6):=by rw [←hW5];simp [go_sem]
   have HPK:=Q00 (Q7s k v4.heap.size (-1) 5 6 W5 HI5.out.cur (by rw [←hW5];simp) (by omega) p0 p1 p2)
   clear p0 p1 p2 hb5 HI4
   go_wp2_with fail
   refine HPK.out.mono ?_
   rintro e v6 ⟨z,rfl,hc6,hg6⟩
   have HI6:=Q00 (HI5.out.draw hk (Nat.le_of_lt hBw) (Kaq _) hg6 hc6)
   clear hc6 hg6 HI5 HPK hW5
   obtain ⟨e0,e1,e2,e3,e4,ef⟩:=HI6.out.cells
   have ef0:=ef 0
   obtain ⟨W7,hW7⟩:∃W,v6.setCell ⟨B,0,none⟩ (.int .i64 z)=W:=⟨_,rfl⟩
   have HI7:=Q00 (HI6.out.set0 hk (Nat.le_of_lt hBw) hBw z)
   rw [hW7] at HI7
   clear HI6
   obtain ⟨j0,j1,j2,j3,j4,jf⟩:=HI7.out.cells
   obtain ⟨r0,r1,r2,r3,r4,rf⟩:=HI7.out.zeros
   have rf0:=rf 0
   have rf1:=rf 1
   have rf2:=rf 2
   have rf3:=rf 3
   have rf4:=rf 4
   have HE:=Q00 (HI7.out.ended hk)
   have HLN:=Q00 (And.intro HI7.out.lnc HI7.out.lnt)
   clear jf rf HI7
   go_wp2
   refine bodyPost_ret (v:=agt z m.lim m.dr (.slice oc m.c.length cc) (.slice ot m.t.length ct)) (by simp [results,Try.results22,go_sem,r0,r1,r2,r3,r4]) rfl ⟨⟨z,m.lim,m.dr,m.c,m.t⟩,_,_,_,_,rfl,HLN.out,HE.out.1.1,HE.out.1.2,HE.out.2.1,HE.out.2.2⟩
  ·obtain ⟨W5,hW5⟩:∃W,v4.alloc (.cells #[.int .i64 (-1),.int .i64 16,.int .i64 17] 3)=W:=⟨_,rfl⟩
   have hb5:Below v4.heap.size v4 W5:=by rw [←hW5];exact (Below.refl _ _).alloc (Kaq _) _
   have HI5:=Q00 (HI4.out.below hk hb5)
   have p0:W5.cell? ⟨v4.heap.size,0,none⟩=some (.int .i64 (-1)):=by rw [←hW5];simp [go_sem]
   have p1:W5.cell? ⟨v4.heap.size,1,none⟩=some (.int .i64 16):=by rw [←hW5];simp [go_sem]
   have p2:W5.cell? ⟨v4.heap.size,2,none⟩=some (.int .i64 17):=by rw [←hW5];simp [go_sem]
   have HPK:=Q00 (Q7s k v4.heap.size (-1) 16 17 W5 HI5.out.cur (by rw [←hW5];simp) (by omega) p0 p1 p2)
   clear p0 p1 p2 hb5 HI4
   go_wp2_with fail
   refine HPK.out.mono ?_
   rintro e v6 ⟨z,rfl,hc6,hg6⟩
   have HI6:=Q00 (HI5.out.draw hk (Nat.le_of_lt hBw) (Kaq _) hg6 hc6)
   clear hc6 hg6 HI5 HPK hW5
   obtain ⟨e0,e1,e2,e3,e4,ef⟩:=HI6.out.cells
   have ef1:=ef 1
   obtain ⟨W7,hW7⟩:∃W,v6.setCell ⟨B,1,none⟩ (.int .i64 z)=W:=⟨_,rfl⟩
   have HI7:=Q00 (HI6.out.set1 hk (Nat.le_of_lt hBw) hBw z)
   rw [hW7] at HI7
   clear HI6
   obtain ⟨j0,j1,j2,j3,j4,jf⟩:=HI7.out.cells
   obtain ⟨r0,r1,r2,r3,r4,rf⟩:=HI7.out.zeros
   have rf0:=rf 0
   have rf1:=rf 1
   have rf2:=rf 2
   have rf3:=rf 3
   have rf4:=rf 4
   have HE:=Q00 (HI7.out.ended hk)
   have HLN:=Q00 (And.intro HI7.out.lnc HI7.out.lnt)
   clear jf rf HI7
   go_wp2
   refine bodyPost_ret (v:=agt m.id z m.dr (.slice oc m.c.length cc) (.slice ot m.t.length ct)) (by simp [results,Try.results22,go_sem,r0,r1,r2,r3,r4]) rfl ⟨⟨m.id,z,m.dr,m.c,m.t⟩,_,_,_,_,rfl,HLN.out,HE.out.1.1,HE.out.1.2,HE.out.2.1,HE.out.2.2⟩
  ·go_wp2_with fail
   refine (Q4l k v4 HI4.out.cur hk4).mono ?_
   rintro e v6 ⟨v',m2,rfl,hl2,⟨vl,rfl,hin⟩,hc6,hg6⟩
   have HI6:=Q00 (HI4.out.draw hk (Nat.le_of_lt hBw) (Kaq _) hg6 hc6)
   obtain ⟨o2,c2,rfl,_⟩:=InL.rd (L:=Q0e) hin
   have HRB:Hid (RowB B w.heap.size v6 o2 c2 m2):=⟨_,_,hin,by omega,.inr hB4⟩
   clear hc6 hg6 HI4 hin
   obtain ⟨e0,e1,e2,e3,e4,ef⟩:=HI6.out.cells
   have ef3:=ef 3
   obtain ⟨W7,hW7⟩:∃W,v6.setCell ⟨B,3,none⟩ (.slice o2 m2.length c2)=W:=⟨_,rfl⟩
   have HI7:=Q00 (HI6.out.set3 hk (Nat.le_of_lt hBw) hBw hl2 HRB.out)
   rw [hW7] at HI7
   clear HI6 HRB
   obtain ⟨j0,j1,j2,j3,j4,jf⟩:=HI7.out.cells
   obtain ⟨r0,r1,r2,r3,r4,rf⟩:=HI7.out.zeros
   have rf0:=rf 0
   have rf1:=rf 1
   have rf2:=rf 2
   have rf3:=rf 3
   have rf4:=rf 4
   have HE:=Q00 (HI7.out.ended hk)
   have HLN:=Q00 (And.intro HI7.out.lnc HI7.out.lnt)
   clear jf rf HI7
   go_wp2
   refine bodyPost_ret (v:=agt m.id m.lim m.dr (.slice o2 m2.length c2) (.slice ot m.t.length ct)) (by simp [results,Try.results22,go_sem,r0,r1,r2,r3,r4]) rfl ⟨⟨m.id,m.lim,m.dr,m2,m.t⟩,_,_,_,_,rfl,HLN.out,HE.out.1.1,HE.out.1.2,HE.out.2.1,HE.out.2.2⟩
  ·go_wp2_with fail
   refine (Q4l k v4 HI4.out.cur hk4).mono ?_
   rintro e v6 ⟨v',m2,rfl,hl2,⟨vl,rfl,hin⟩,hc6,hg6⟩
   have HI6:=Q00 (HI4.out.draw hk (Nat.le_of_lt hBw) (Kaq _) hg6 hc6)
   obtain ⟨o2,c2,rfl,_⟩:=InL.rd (L:=Q0e) hin
   have HRB:Hid (RowB B w.heap.size v6 o2 c2 m2):=⟨_,_,hin,by omega,.inr hB4⟩
   clear hc6 hg6 HI4 hin
   obtain ⟨e0,e1,e2,e3,e4,ef⟩:=HI6.out.cells
   have ef4:=ef 4
   obtain ⟨W7,hW7⟩:∃W,v6.setCell ⟨B,4,none⟩ (.slice o2 m2.length c2)=W:=⟨_,rfl⟩
   have HI7:=Q00 (HI6.out.set4 hk (Nat.le_of_lt hBw) hBw hl2 HRB.out)
   rw [hW7] at HI7
   clear HI6 HRB
   obtain ⟨j0,j1,j2,j3,j4,jf⟩:=HI7.out.cells
   obtain ⟨r0,r1,r2,r3,r4,rf⟩:=HI7.out.zeros
   have rf0:=rf 0
   have rf1:=rf 1
   have rf2:=rf 2
   have rf3:=rf 3
   have rf4:=rf 4
   have HE:=Q00 (HI7.out.ended hk)
   have HLN:=Q00 (And.intro HI7.out.lnc HI7.out.lnt)
   clear jf rf HI7
   go_wp2
   refine bodyPost_ret (v:=agt m.id m.lim m.dr (.slice oc m.c.length cc) (.slice o2 m2.length c2)) (by simp [results,Try.results22,go_sem,r0,r1,r2,r3,r4]) rfl ⟨⟨m.id,m.lim,m.dr,m.c,m2⟩,_,_,_,_,rfl,HLN.out,HE.out.1.1,HE.out.1.2,HE.out.2.1,HE.out.2.2⟩
theorem Q8q (k g n:Nat) (vs:List Int) (hn:vs.length=n) (w:World) (hc:isCur k w) (hg:g < w.heap.size) (hne:g≠k) (h0:0 < n) (h1:n≤1000) (hcell:∀q,q < n→w.cell? ⟨g,q,none⟩=some (.int .i64 (vs.getD q 0))):
  Calls Try.prog 25 #[.pointer (some ⟨k,0,none⟩),.slice (some ⟨g,0,none⟩) n n] w fun e w'=> ∃x:Int,e=.returned (.int .i64 x)∧isCur k w'∧Stp k (k+1) w w':=by
 subst hn
 refine (Q0r k g vs w hc hg hne h0 h1 hcell).mono ?_
 rintro e w' ⟨q,_,rfl,h1,h2⟩
 exact ⟨_,rfl,h1,Stp.grown h2 (fun b e=> by cases e;omega)⟩
end Go.Proofs.Ytljogkoaaidlcaa
