/- The draw of the law on handling: an agent, a time, what is carried to it. -/
import Derived.Deep.DeepCutAuto
import Derived.Test.YtljogkoaaidlcaaQHandL34
namespace Go.Proofs.Ytljogkoaaidlcaa
open Go.ChangeShapes Go.WideShapes Go.ChangeAt Go.RowKit Go.Joins
set_option linter.unusedVariables false
set_option linter.unusedSimpArgs false
set_option maxRecDepth 100000
set_option maxHeartbeats 40000000
def RowH (w0 H:Nat) (w:World) (o:Option Addr) (c:Nat) (m:List Sl):Prop:=∃lo,InS lo H w (.slice o m.length c) m∧w0 < lo
theorem RowA.toH {w0:Nat} {w:World} {o:Option Addr} {c:Nat} {l:List Sl} (h:RowA w0 w o c l):RowH w0 w.heap.size w o c l:=by
 obtain ⟨lo,hi,h1,h2⟩:=h
 exact ⟨lo,⟨h1.1,fun b e=> (h1.1.lt b e).2⟩,h2⟩
theorem RowH.step {w0 H x y:Nat} {w w':World} {o:Option Addr} {c:Nat} {l:List Sl} (h:RowH w0 H w o c l) (s:Stp x y w w') (hd:y≤w0+1∨H≤x):RowH w0 H w' o c l:=by
 obtain ⟨lo,h1,h2⟩:=h
 exact ⟨lo,InRow.step h1 s (by omega),h2⟩
theorem RowH.below {w0 H:Nat} {w w':World} {o:Option Addr} {c:Nat} {l:List Sl} (h:RowH w0 H w o c l) (hb:Below w.heap.size w w'):RowH w0 H w' o c l:=h.step (Stp.of (lo:=0) (hi:=0) hb) (.inl (Kcq _))
theorem RowH.rd {w0 H:Nat} {w:World} {o:Option Addr} {c:Nat} {l:List Sl} (h:RowH w0 H w o c l):RdV Q0e w.heap.size w (.slice o l.length c) l:=by
 obtain ⟨lo,h1,h2⟩:=h
 exact RowA.rd ⟨lo,H,h1,h2⟩
theorem Q0R {W:World} {R k j:Nat} {u a b c d e:Value} (h:W.cell? ⟨k,j,none⟩=some u) (hne:R≠k):(((((W.setCell ⟨R,0,none⟩ (a)).setCell ⟨R,1,none⟩ (b)).setCell ⟨R,2,none⟩ (c)).setCell ⟨R,3,none⟩ (d)).setCell ⟨R,4,none⟩ (e)).cell? ⟨k,j,none⟩=some u:=by
 rw [World.cell?_setCell_far _ _ _ _ hne,World.cell?_setCell_far _ _ _ _ hne,World.cell?_setCell_far _ _ _ _ hne,World.cell?_setCell_far _ _ _ _ hne,World.cell?_setCell_far _ _ _ _ hne];exact h
theorem Q0S {W:World} {R k j:Nat} {u u0 u1 u2 u3 u4 u5 u6 u7:Value} (h:W.cell? ⟨k,j,none⟩=some u) (hne:R≠k):((((((((W.setCell ⟨R,0,none⟩ (u0)).setCell ⟨R,1,none⟩ (u1)).setCell ⟨R,2,none⟩ (u2)).setCell ⟨R,3,none⟩ (u3)).setCell ⟨R,4,none⟩ (u4)).setCell ⟨R,5,none⟩ (u5)).setCell ⟨R,6,none⟩ (u6)).setCell ⟨R,7,none⟩ (u7)).cell? ⟨k,j,none⟩=some u:=by
 rw [World.cell?_setCell_far _ _ _ _ hne,World.cell?_setCell_far _ _ _ _ hne,World.cell?_setCell_far _ _ _ _ hne,World.cell?_setCell_far _ _ _ _ hne,World.cell?_setCell_far _ _ _ _ hne,World.cell?_setCell_far _ _ _ _ hne,World.cell?_setCell_far _ _ _ _ hne,World.cell?_setCell_far _ _ _ _ hne];exact h
theorem Q0L (W:World) (B:Nat) (u0 u1 u2 u3 u4 u5 u6 u7:Value):Stp B (B+1) W ((((((((W.setCell ⟨B,0,none⟩ (u0)).setCell ⟨B,1,none⟩ (u1)).setCell ⟨B,2,none⟩ (u2)).setCell ⟨B,3,none⟩ (u3)).setCell ⟨B,4,none⟩ (u4)).setCell ⟨B,5,none⟩ (u5)).setCell ⟨B,6,none⟩ (u6)).setCell ⟨B,7,none⟩ (u7)):=
 (Q04 W B u0 u1 u2 u3 u4).trans (((Q0s _ B 5 u5).trans (Q0s _ B 6 u6)).trans (Q0s _ B 7 u7))
def RdGL (lo:Nat) (w:World) (o:Option Addr) (l:List (Int × Int)):Prop:=
 l=[]∨∃b,o=some ⟨b,0,none⟩∧lo≤b∧b < w.heap.size∧∀i,i < l.length→w.cell? ⟨b,i * 2,none⟩=some (.int .i64 (l.getD i (0,0)).1)∧w.cell? ⟨b,i * 2+1,none⟩=some (.int .i64 (l.getD i (0,0)).2)
theorem RdGL.rd {lo:Nat} {w:World} {o:Option Addr} {l:List (Int × Int)} (h:RdGL lo w o l):RdG w o l:=by
 rcases h with h|⟨b,ho,_,hb,r⟩
 ·exact .inl h
 ·exact .inr ⟨b,0,ho,hb,fun i hi=> by rw [Nat.zero_add];exact r i hi⟩
theorem RdGL.step {lo x y:Nat} {w w':World} {o:Option Addr} {l:List (Int × Int)} (h:RdGL lo w o l) (s:Stp x y w w') (hd:y≤lo):RdGL lo w' o l:=by
 rcases h with h|⟨b,ho,hl,hb,r⟩
 ·exact .inl h
 ·exact .inr ⟨b,ho,hl,Kbq hb s.size,fun i hi=> ⟨s.cell (r i hi).1 hb (.inr (by omega)),s.cell (r i hi).2 hb (.inr (by omega))⟩⟩
theorem ownG.lo {w:World} {base n cap:Nat} {o:Option Addr} {l:List (Int × Int)} (h:ownG w base (.slice o n cap) l):RdGL base w o l:=by
 rcases h.2 with ⟨h1,h2⟩|⟨g,c2,cur,h1,h2,_⟩
 ·exact .inl (List.eq_nil_of_length_eq_zero h2)
 ·injection h1 with e1 e2 e3
  subst e1
  have hl:=h.lt g rfl
  refine .inr ⟨g,rfl,hl.1,hl.2,fun i hi=> ?_⟩
  exact RdG.two (ownG.rd h) hi
theorem RdGL.set2 {lo:Nat} {w W:World} {bg:Nat} {g:List (Int × Int)} {q:Nat} {id:Int} (h:RdGL lo w (some ⟨bg,0,none⟩) g) (hq:q < g.length) (hW:w.setCell ⟨bg,q * 2,none⟩ (.int .i64 id)=W):RdGL lo W (some ⟨bg,0,none⟩) (g.set q (id,(g.getD q (0,0)).2)):=by
 rcases h with h|⟨b',ho,hl,hb,r⟩
 ·rw [h] at hq;simp at hq
 ·injection ho with ho
  injection ho with e1 e2
  subst e1
  refine .inr ⟨bg,rfl,hl,by rw [←hW];simpa using hb,fun i hi=> ?_⟩
  rw [List.length_set] at hi
  obtain ⟨d0,d1⟩:=r i hi
  by_cases hiq:i=q
  ·subst hiq
   rw [show (g.set i (id,(g.getD i (0,0)).2)).getD i (0,0)=(id,(g.getD i (0,0)).2) by simp [hi],←hW]
   exact ⟨World.cell?_setCell_same _ _ _ d0,(World.cell?_setCell_other _ _ _ _ (by simp)).trans d1⟩
  ·rw [show (g.set q (id,(g.getD q (0,0)).2)).getD i (0,0)=g.getD i (0,0) by simp [List.getElem?_set,Ne.symm hiq],←hW]
   exact ⟨(World.cell?_setCell_other _ _ _ _ (by first|(simp;done)|(simp;omega))).trans d0,(World.cell?_setCell_other _ _ _ _ (by first|(simp;done)|(simp;omega))).trans d1⟩
theorem Q3P {W:World} {P:Nat} {c0 c1 c2 c3 c4:Value} {T:TypeId} (h:W.heap[P]? =some (.cells #[c0,c1,c2,c3,c4] T (0,0))):W.cell? ⟨P,0,none⟩=some c0∧W.cell? ⟨P,1,none⟩=some c1∧W.cell? ⟨P,2,none⟩=some c2∧W.cell? ⟨P,3,none⟩=some c3∧W.cell? ⟨P,4,none⟩=some c4∧∀j,W.frozen? ⟨P,j,none⟩=false:=
 ⟨Q02 h 0 _ rfl,Q02 h 1 _ rfl,Q02 h 2 _ rfl,Q02 h 3 _ rfl,Q02 h 4 _ rfl,fun j=> Q0f h j⟩
theorem Q8c (x:World) (s:Obj) (zs:Array Value) (T:TypeId):((x.alloc (.cells zs T)).alloc s).heap[x.heap.size]? =some (.cells zs T (0,0)):=
 (((Below.refl _ (x.alloc (.cells zs T))).alloc (Kaq _) s).block x.heap.size (by rw [World.size_alloc];exact Nat.lt_succ_self _)).trans (World.alloc_heap_new x (.cells zs T))
theorem Q8h (x:World) (s:Obj) (zs:Array Value) (T:TypeId):((x.alloc s).alloc (.cells zs T)).heap[x.heap.size+1]? =some (.cells zs T (0,0)):=by
 have h:=World.alloc_heap_new (x.alloc s) (.cells zs T)
 rw [World.size_alloc] at h;exact h
theorem Q40 (o:Option Addr) (cap:Nat) (l:List Int) (w:World) (hR:Rd w o l) (hB8:isB l) (hm:l.length≤maxLen):
  Calls Try.prog 5 #[.slice o l.length cap] w fun e w'=> ∃(m:Am) (oc:Option Addr) (cc:Nat) (ot:Option Addr) (ct:Nat) (now a b f s:Int) (ol:Option Addr) (ln cl:Nat) (og:Option Addr) (cg:Nat) (g:List (Int × Int)) (pl st:Int),e=.returned (.tuple #[(agt m.id m.lim m.dr (.slice oc m.c.length cc) (.slice ot m.t.length ct)),.int .i64 now,crr a b f s (.slice ol ln cl) (.slice og g.length cg) pl st])∧((1≤m.c.length∧m.c.length≤16)∧(1≤m.t.length∧m.t.length≤16))∧RdA w'.heap.size w' (agt m.id m.lim m.dr (.slice oc m.c.length cc) (.slice ot m.t.length ct)) m∧RdG w' og g∧ln≤2000∧g.length≤8∧Below w.heap.size w w':=by
 obtain ⟨W0,hW0⟩:∃W,(w.alloc (.cells #[.int .i64 0,.int .i64 0,.bool false,.slice none 0 0,.slice none 0 0] 27)).alloc (.cells #[.int .i64 0,.int .i64 0,.int .i64 0,.int .i64 0,.slice none 0 0,.slice none 0 0,.int .i64 0,.int .i64 0] 34)=W:=⟨_,rfl⟩
 have hb0:Below w.heap.size w W0:=by rw [←hW0];exact ((Below.refl _ _).alloc (Kaq _) _).alloc (by simp) _
 have HR0:Hid (W0.heap[w.heap.size]? =some (.cells #[.int .i64 0,.int .i64 0,.bool false,.slice none 0 0,.slice none 0 0] 27 (0,0))):=by rw [←hW0];exact Q8c w _ _ _
 have HQ0:Hid (W0.heap[w.heap.size+1]? =some (.cells #[.int .i64 0,.int .i64 0,.int .i64 0,.int .i64 0,.slice none 0 0,.slice none 0 0,.int .i64 0,.int .i64 0] 34 (0,0))):=by rw [←hW0];exact Q8h w _ _ _
 have hz0:w.heap.size+1 < W0.heap.size:=by rw [←hW0];simp
 have HR:=Q00 (Rd.kept hR hb0)
 have HB:=Q00 hb0
 clear hb0 hR
 go_enter Try.func5,Try.ntmps5
 go_wp2_with fail
 refine (Q6F o cap l W0 HR.out hB8 hm).mono ?_
 rintro e v1 ⟨rfl,hc,hb,hk⟩
 have HC:=Q00 hc
 have HR1:=Q00 ((hb.block _ (by omega)).trans HR0.out)
 have HQ1:=Q00 ((hb.block _ hz0).trans HQ0.out)
 have HB1:=Q00 (HB.out.trans (hb.mono HB.out.size))
 have s1:=hb.size
 clear hc hb HR HR0 HQ0 HB hW0
 generalize hK:W0.heap.size=K at *
 clear hK W0
 go_wp2_with fail
 refine (Q5O K v1 HC.out hk).mono ?_
 rintro e v2 ⟨m,oc,cc,ot,ct,rfl,hln,hrc,hrt,hc2,hg2⟩
 have HLN:=Q00 hln
 have st2:Stp K (K+1) v1 v2:=Stp.grown hg2 (fun b e=> by cases e;omega)
 have s2:=st2.size
 have HR2:=Q00 (st2.box HR1.out (.inl (by omega)))
 have HQ2:=Q00 (st2.box HQ1.out (.inl hz0))
 have HB2:=Q00 (HB1.out.trans (st2.below (by omega) HB1.out.size))
 obtain ⟨W2,hW2⟩:∃W,v2.alloc (.cells #[.int .i64 m.id,.int .i64 m.lim,.bool m.dr,.slice oc m.c.length cc,.slice ot m.t.length ct] 27)=W:=⟨_,rfl⟩
 have hb2:Below v2.heap.size v2 W2:=by rw [←hW2];exact (Below.refl _ _).alloc (Kaq _) _
 have sW2:W2.heap.size=v2.heap.size+1:=by rw [←hW2];simp
 have HA2:Hid (W2.heap[v2.heap.size]? =some (.cells #[.int .i64 m.id,.int .i64 m.lim,.bool m.dr,.slice oc m.c.length cc,.slice ot m.t.length ct] 27 (0,0))):=by rw [←hW2];exact World.alloc_heap_new v2 _
 have HRC2:=Q00 (hrc.kept hb2).toH
 have HRT2:=Q00 (hrt.kept hb2).toH
 have HC2:=Q00 (hc2.below (hb2.mono (by omega)))
 have HR3:=Q00 ((hb2.block _ (by omega)).trans HR2.out)
 have HQ3:=Q00 ((hb2.block _ (by omega)).trans HQ2.out)
 have HB3:=Q00 (HB2.out.trans (hb2.mono HB2.out.size))
 clear hrc hrt hc2 hg2 st2 HC HR1 HQ1 HB1 hln hb2 HR2 HQ2 HB2
 go_wp2_with fail
 refine (Q66 K W2 HC2.out (by omega)).mono ?_
 rintro e v3 ⟨v,⟨a,b,f,s,L,g,pl,st⟩,rfl,⟨vl,vg,rfl,ob,og_⟩,hLb,hLn,hgn,hc3,hg3⟩
 dsimp only at ob og_ hLb hLn hgn ⊢
 obtain ⟨ol,cl,ev,_⟩:=ob.open
 subst ev
 obtain ⟨og,cg,eg,_⟩:=og_.open
 subst eg
 have st3:Stp K (K+1) W2 v3:=Stp.grown hg3 (fun b e=> by cases e;omega)
 have s3:=st3.size
 have HG3:=Q00 (show ownG v3 W2.heap.size (.slice og g.length cg) g from og_)
 have HGB:=Q00 (fun (q:Nat) (h:og=some ⟨q,0,none⟩)=> (HG3.out.lt q (by rw [h];rfl)).2)
 obtain ⟨ln,hln⟩:∃z,L.length=z:=⟨_,rfl⟩
 obtain ⟨gn,hgl⟩:∃z,g.length=z:=⟨_,rfl⟩
 rw [hgl] at HG3 hgn
 rw [hln] at hLn
 simp only [hln,hgl]
 obtain ⟨W3,hW3⟩:∃W,v3.alloc (.cells #[.int .i64 a,.int .i64 b,.int .i64 f,.int .i64 s,.slice ol ln cl,.slice og gn cg,.int .i64 pl,.int .i64 st] 34)=W:=⟨_,rfl⟩
 have hb3:Below v3.heap.size v3 W3:=by rw [←hW3];exact (Below.refl _ _).alloc (Kaq _) _
 have sW3:W3.heap.size=v3.heap.size+1:=by rw [←hW3];simp
 have HX3:Hid (W3.heap[v3.heap.size]? =some (.cells #[.int .i64 a,.int .i64 b,.int .i64 f,.int .i64 s,.slice ol ln cl,.slice og gn cg,.int .i64 pl,.int .i64 st] 34 (0,0))):=by rw [←hW3];exact World.alloc_heap_new v3 _
 have HA3:=Q00 ((hb3.block _ (by omega)).trans (st3.box HA2.out (.inr (by omega))))
 have HRC3:=Q00 ((HRC2.out.step st3 (.inl (by omega))).below hb3)
 have HRT3:=Q00 ((HRT2.out.step st3 (.inl (by omega))).below hb3)
 have HC3:=Q00 (hc3.below (hb3.mono (by omega)))
 have HR4:=Q00 ((hb3.block _ (by omega)).trans (st3.box HR3.out (.inl (by omega))))
 have HQ4:=Q00 ((hb3.block _ (by omega)).trans (st3.box HQ3.out (.inl (by omega))))
 have HB4:=Q00 ((HB3.out.trans (st3.below (by omega) HB3.out.size)).trans (hb3.mono (by have:=HB3.out.size;omega)))
 have HGW:=Q00 (Q0a HG3.out hb3)
 have HGL:=Q00 hgl
 obtain ⟨x0,x1,x2,x3,x4,x5,x6,x7,xf⟩:=Q1D HX3.out
 generalize hBx:v3.heap.size=Bx at *
 generalize hBa:v2.heap.size=Ba at *
 clear ob og_ hg3 hc3 hb3 st3 HA2 HRC2 HRT2 HC2 HR3 HQ3 HB3 HG3 hLb hW2 hln
 go_upto_region 4 with fail
 clear hW3
 go_cut [35] (fun s35 wx=> ∃z:Bool,s35=.bool z∧Hid (z=true→0 < gn∧0≤pl∧pl < (gn:Int))∧Hid (Stp K (K+1) W3 wx)∧Hid (isCur K wx))
 case first=>
  have HNo:Hid (Stp K (K+1) W3 W3∧isCur K W3):=Q00 ⟨(Stp.of (lo:=K) (hi:=K+1) (Below.refl _ _)),HC3.out⟩
  by_cases h1:gn=0
  ·subst h1
   go_wp2
   go_meet
   exact ⟨false,rfl,Q00 (fun q=> by cases q),Q00 HNo.out.1,Q00 HNo.out.2⟩
  ·have h1p:(0:Int) < (gn:Int):=by omega
   by_cases h2:0≤pl
   ·by_cases h3:pl < (gn:Int)
    ·go_wp2_with fail
     refine (Q0Y K 6 W3 HC3.out (by decide) (by decide)).mono ?_
     rintro e y ⟨z,rfl,hc5,hg5⟩
     have S5:=Q00 (show Stp K (K+1) W3 y from Stp.grown hg5 (fun b e=> by cases e;omega))
     have C5:=Q00 hc5
     clear hc5 hg5
     go_wp2
     go_meet
     exact ⟨!z,rfl,Q00 (fun _=> ⟨by omega,h2,h3⟩),S5,C5⟩
    ·go_wp2
     go_meet
     exact ⟨false,rfl,Q00 (fun q=> by cases q),Q00 HNo.out.1,Q00 HNo.out.2⟩
   ·go_wp2
    go_meet
    exact ⟨false,rfl,Q00 (fun q=> by cases q),Q00 HNo.out.1,Q00 HNo.out.2⟩
 case rest=>
 obtain ⟨z,rfl,HZ,HS5,HC5⟩:=hcut
 obtain ⟨W5,hwc⟩:∃W,W=wc:=⟨_,rfl⟩
 subst hwc
 have s5:=HS5.out.size
 have HA5:=Q00 (HS5.out.box HA3.out (.inr (by omega)))
 have HX5:=Q00 (HS5.out.box HX3.out (.inr (by omega)))
 have HR5:=Q00 (HS5.out.box HR4.out (.inl (by omega)))
 have HQ5:=Q00 (HS5.out.box HQ4.out (.inl (by omega)))
 have HB5:=Q00 (HB4.out.trans (HS5.out.below (by omega) HB4.out.size))
 have HRC5:=Q00 (HRC3.out.step HS5.out (.inl (by omega)))
 have HRT5:=Q00 (HRT3.out.step HS5.out (.inl (by omega)))
 have HG5:Hid (ownG W5 W2.heap.size (.slice og gn cg) g):=Q00 ((InRow.of HGW.out).step HS5.out (.inl (by omega))).1
 clear x0 x1 x2 x3 x4 x5 x6 x7 xf HS5 HA3 HX3 HR4 HQ4 HB4 HRC3 HRT3 HGW HC3
 cases z with
 |false=>
  have HGG:=Q00 HG5.out.lo
  have HGE:g.length=gn:=HGL.out
  have HA:=HA5
  have HX:=HX5
  have HRR:=HR5
  have HQ:=HQ5
  have HB:=HB5
  have HRC:=HRC5
  have HRT:=HRT5
  have HC:=HC5
  clear HG5 HGL HA5 HX5 HR5 HQ5 HB5 HRC5 HRT5 HC5 HZ
  obtain ⟨t3,ht3⟩:∃z,IntKind.i64.wrap (st+3)=z:=⟨_,rfl⟩
  obtain ⟨t10,ht10⟩:∃z,IntKind.i64.wrap (st+10)=z:=⟨_,rfl⟩
  obtain ⟨t11,ht11⟩:∃z,IntKind.i64.wrap (st+11)=z:=⟨_,rfl⟩
  have hp:Below W5.heap.size W5 (W5.alloc (.cells #[.int .i64 st,.int .i64 t3,.int .i64 t10,.int .i64 t11,.int .i64 0,.int .i64 100001] 3)).drew:=Below.drew ((Below.refl _ _).alloc (Kaq _) _)
  have HP:=Q00 (Q8q K W5.heap.size 6 [st,t3,t10,t11,0,100001] rfl (W5.alloc (.cells #[.int .i64 st,.int .i64 t3,.int .i64 t10,.int .i64 t11,.int .i64 0,.int .i64 100001] 3)).drew (HC.out.below (hp.mono (by omega))) (by simp) (by omega) (by simp) (by simp) (fun q hq=> by
    match q,hq with
    |0,_=> simp [go_sem]
    |1,_=> simp [go_sem]
    |2,_=> simp [go_sem]
    |3,_=> simp [go_sem]
    |4,_=> simp [go_sem]
    |5,_=> simp [go_sem]))
  obtain ⟨k0,k1,k2,k3,k4,kf⟩:=Q3P HA.out
  obtain ⟨c0,c1,c2,c3,c4,c5,c6,c7,cf⟩:=Q1D HX.out
  have z1:Ba < W5.heap.size:=by omega
  have z2:Bx < W5.heap.size:=by omega
  have z3:Ba < W5.heap.size+1:=by omega
  have z4:Bx < W5.heap.size+1:=by omega
  go_upto_region 6 with fail
  go_region_held3 (fun w'=> w'.cell? ⟨Ba,0,none⟩=some (.int .i64 m.id)∧w'.cell? ⟨Ba,1,none⟩=some (.int .i64 m.lim)∧w'.cell? ⟨Ba,2,none⟩=some (.bool m.dr)∧w'.cell? ⟨Ba,3,none⟩=some (.slice oc m.c.length cc)∧w'.cell? ⟨Ba,4,none⟩=some (.slice ot m.t.length ct)∧w'.cell? ⟨Bx,0,none⟩=some (.int .i64 a)∧w'.cell? ⟨Bx,1,none⟩=some (.int .i64 b)∧w'.cell? ⟨Bx,2,none⟩=some (.int .i64 f)∧w'.cell? ⟨Bx,3,none⟩=some (.int .i64 s)∧w'.cell? ⟨Bx,4,none⟩=some (.slice ol ln cl)∧w'.cell? ⟨Bx,5,none⟩=some (.slice og gn cg)∧w'.cell? ⟨Bx,6,none⟩=some (.int .i64 pl)∧w'.cell? ⟨Bx,7,none⟩=some (.int .i64 st)) (first|with_reducible exact ⟨pk0,pk1,pk2,pk3,pk4,pc0,pc1,pc2,pc3,pc4,pc5,pc6,pc7⟩|with_reducible exact ⟨(Q0R pk0 (show w.heap.size≠Ba by omega)),(Q0R pk1 (show w.heap.size≠Ba by omega)),(Q0R pk2 (show w.heap.size≠Ba by omega)),(Q0R pk3 (show w.heap.size≠Ba by omega)),(Q0R pk4 (show w.heap.size≠Ba by omega)),(Q0R pc0 (show w.heap.size≠Bx by omega)),(Q0R pc1 (show w.heap.size≠Bx by omega)),(Q0R pc2 (show w.heap.size≠Bx by omega)),(Q0R pc3 (show w.heap.size≠Bx by omega)),(Q0R pc4 (show w.heap.size≠Bx by omega)),(Q0R pc5 (show w.heap.size≠Bx by omega)),(Q0R pc6 (show w.heap.size≠Bx by omega)),(Q0R pc7 (show w.heap.size≠Bx by omega))⟩|with_reducible exact ⟨(Q0S pk0 (show w.heap.size+1≠Ba by omega)),(Q0S pk1 (show w.heap.size+1≠Ba by omega)),(Q0S pk2 (show w.heap.size+1≠Ba by omega)),(Q0S pk3 (show w.heap.size+1≠Ba by omega)),(Q0S pk4 (show w.heap.size+1≠Ba by omega)),(Q0S pc0 (show w.heap.size+1≠Bx by omega)),(Q0S pc1 (show w.heap.size+1≠Bx by omega)),(Q0S pc2 (show w.heap.size+1≠Bx by omega)),(Q0S pc3 (show w.heap.size+1≠Bx by omega)),(Q0S pc4 (show w.heap.size+1≠Bx by omega)),(Q0S pc5 (show w.heap.size+1≠Bx by omega)),(Q0S pc6 (show w.heap.size+1≠Bx by omega)),(Q0S pc7 (show w.heap.size+1≠Bx by omega))⟩|with_reducible exact ⟨(Q0S (Q0R pk0 (show w.heap.size≠Ba by omega)) (show w.heap.size+1≠Ba by omega)),(Q0S (Q0R pk1 (show w.heap.size≠Ba by omega)) (show w.heap.size+1≠Ba by omega)),(Q0S (Q0R pk2 (show w.heap.size≠Ba by omega)) (show w.heap.size+1≠Ba by omega)),(Q0S (Q0R pk3 (show w.heap.size≠Ba by omega)) (show w.heap.size+1≠Ba by omega)),(Q0S (Q0R pk4 (show w.heap.size≠Ba by omega)) (show w.heap.size+1≠Ba by omega)),(Q0S (Q0R pc0 (show w.heap.size≠Bx by omega)) (show w.heap.size+1≠Bx by omega)),(Q0S (Q0R pc1 (show w.heap.size≠Bx by omega)) (show w.heap.size+1≠Bx by omega)),(Q0S (Q0R pc2 (show w.heap.size≠Bx by omega)) (show w.heap.size+1≠Bx by omega)),(Q0S (Q0R pc3 (show w.heap.size≠Bx by omega)) (show w.heap.size+1≠Bx by omega)),(Q0S (Q0R pc4 (show w.heap.size≠Bx by omega)) (show w.heap.size+1≠Bx by omega)),(Q0S (Q0R pc5 (show w.heap.size≠Bx by omega)) (show w.heap.size+1≠Bx by omega)),(Q0S (Q0R pc6 (show w.heap.size≠Bx by omega)) (show w.heap.size+1≠Bx by omega)),(Q0S (Q0R pc7 (show w.heap.size≠Bx by omega)) (show w.heap.size+1≠Bx by omega))⟩|with_reducible exact ⟨(Q0R (Q0S pk0 (show w.heap.size+1≠Ba by omega)) (show w.heap.size≠Ba by omega)),(Q0R (Q0S pk1 (show w.heap.size+1≠Ba by omega)) (show w.heap.size≠Ba by omega)),(Q0R (Q0S pk2 (show w.heap.size+1≠Ba by omega)) (show w.heap.size≠Ba by omega)),(Q0R (Q0S pk3 (show w.heap.size+1≠Ba by omega)) (show w.heap.size≠Ba by omega)),(Q0R (Q0S pk4 (show w.heap.size+1≠Ba by omega)) (show w.heap.size≠Ba by omega)),(Q0R (Q0S pc0 (show w.heap.size+1≠Bx by omega)) (show w.heap.size≠Bx by omega)),(Q0R (Q0S pc1 (show w.heap.size+1≠Bx by omega)) (show w.heap.size≠Bx by omega)),(Q0R (Q0S pc2 (show w.heap.size+1≠Bx by omega)) (show w.heap.size≠Bx by omega)),(Q0R (Q0S pc3 (show w.heap.size+1≠Bx by omega)) (show w.heap.size≠Bx by omega)),(Q0R (Q0S pc4 (show w.heap.size+1≠Bx by omega)) (show w.heap.size≠Bx by omega)),(Q0R (Q0S pc5 (show w.heap.size+1≠Bx by omega)) (show w.heap.size≠Bx by omega)),(Q0R (Q0S pc6 (show w.heap.size+1≠Bx by omega)) (show w.heap.size≠Bx by omega)),(Q0R (Q0S pc7 (show w.heap.size+1≠Bx by omega)) (show w.heap.size≠Bx by omega))⟩|with_reducible exact ⟨k0,k1,k2,k3,k4,c0,c1,c2,c3,c4,c5,c6,c7⟩|go_keep) (first|(go_at_call 25;(with_reducible refine HP.out.mono ?_);rintro e u ⟨now,rfl,hcu,su⟩;have S:Stp K (K+1) W5 u:=(Stp.of hp).trans su;have sz:=S.size;have HAu:=Q00 (S.box HA.out (.inr (by omega)));have HXu:=Q00 (S.box HX.out (.inr (by omega)));have HRu:=Q00 (S.box HRR.out (.inl (by omega)));have HQu:=Q00 (S.box HQ.out (.inl (by omega)));obtain ⟨pk0,pk1,pk2,pk3,pk4,pkf⟩:=Q3P HAu.out;obtain ⟨pc0,pc1,pc2,pc3,pc4,pc5,pc6,pc7,pcf⟩:=Q1D HXu.out;obtain ⟨r0,r1,r2,r3,r4,rf⟩:=Q3P HRu.out;obtain ⟨q0,q1,q2,q3,q4,q5,q6,q7,qf⟩:=Q1D HQu.out;have rf0:=rf 0;have rf1:=rf 1;have rf2:=rf 2;have rf3:=rf 3;have rf4:=rf 4;have qf0:=qf 0;have qf1:=qf 1;have qf2:=qf 2;have qf3:=qf 3;have qf4:=qf 4;have qf5:=qf 5;have qf6:=qf 6;have qf7:=qf 7;clear hcu su)|fail)
  all_goals go_wp2
  all_goals have HRCu:=Q00 (HRC.out.step S (.inl (by omega)))
  all_goals have HRTu:=Q00 (HRT.out.step S (.inl (by omega)))
  all_goals have HGu:=Q00 (HGG.out.step S (by omega))
  all_goals have HBu:=Q00 (HB.out.trans (S.below (by omega) HB.out.size))
  all_goals refine bodyPost_ret (v:=.tuple #[(agt m.id m.lim m.dr (.slice oc m.c.length cc) (.slice ot m.t.length ct)),.int .i64 now,crr a b f s (.slice ol ln cl) (.slice og gn cg) pl st]) (by simp [results,Try.results5,go_sem,r0,r1,r2,r3,r4,q0,q1,q2,q3,q4,q5,q6,q7]) rfl ?_
  all_goals first
   |exact ⟨m,oc,cc,ot,ct,now,a,b,f,s,ol,ln,cl,_,cg,g,pl,st,by rw [HGE],HLN.out,⟨_,_,rfl,(((HRCu.out.step (Q04 u w.heap.size (.int .i64 m.id) (.int .i64 m.lim) (.bool m.dr) (.slice oc m.c.length cc) (.slice ot m.t.length ct)) (.inl (by omega))).step (Q0L _ (w.heap.size+1) (.int .i64 a) (.int .i64 b) (.int .i64 f) (.int .i64 s) (.slice ol ln cl) (.slice og gn cg) (.int .i64 pl) (.int .i64 st)) (.inl (by omega))).rd),(((HRTu.out.step (Q04 u w.heap.size (.int .i64 m.id) (.int .i64 m.lim) (.bool m.dr) (.slice oc m.c.length cc) (.slice ot m.t.length ct)) (.inl (by omega))).step (Q0L _ (w.heap.size+1) (.int .i64 a) (.int .i64 b) (.int .i64 f) (.int .i64 s) (.slice ol ln cl) (.slice og gn cg) (.int .i64 pl) (.int .i64 st)) (.inl (by omega))).rd)⟩,((HGu.out.step (Q04 u w.heap.size (.int .i64 m.id) (.int .i64 m.lim) (.bool m.dr) (.slice oc m.c.length cc) (.slice ot m.t.length ct)) (by omega)).step (Q0L _ (w.heap.size+1) (.int .i64 a) (.int .i64 b) (.int .i64 f) (.int .i64 s) (.slice ol ln cl) (.slice og gn cg) (.int .i64 pl) (.int .i64 st)) (by omega)).rd,hLn,by omega,(HBu.out.trans ((Q04 u w.heap.size (.int .i64 m.id) (.int .i64 m.lim) (.bool m.dr) (.slice oc m.c.length cc) (.slice ot m.t.length ct)).below (by omega) (by omega))).trans ((Q0L _ (w.heap.size+1) (.int .i64 a) (.int .i64 b) (.int .i64 f) (.int .i64 s) (.slice ol ln cl) (.slice og gn cg) (.int .i64 pl) (.int .i64 st)).below (by omega) (by simp <;> omega))⟩
   |exact ⟨m,oc,cc,ot,ct,now,a,b,f,s,ol,ln,cl,_,cg,g,pl,st,by rw [HGE],HLN.out,⟨_,_,rfl,(((HRCu.out.step (Q0L u (w.heap.size+1) (.int .i64 a) (.int .i64 b) (.int .i64 f) (.int .i64 s) (.slice ol ln cl) (.slice og gn cg) (.int .i64 pl) (.int .i64 st)) (.inl (by omega))).step (Q04 _ w.heap.size (.int .i64 m.id) (.int .i64 m.lim) (.bool m.dr) (.slice oc m.c.length cc) (.slice ot m.t.length ct)) (.inl (by omega))).rd),(((HRTu.out.step (Q0L u (w.heap.size+1) (.int .i64 a) (.int .i64 b) (.int .i64 f) (.int .i64 s) (.slice ol ln cl) (.slice og gn cg) (.int .i64 pl) (.int .i64 st)) (.inl (by omega))).step (Q04 _ w.heap.size (.int .i64 m.id) (.int .i64 m.lim) (.bool m.dr) (.slice oc m.c.length cc) (.slice ot m.t.length ct)) (.inl (by omega))).rd)⟩,((HGu.out.step (Q0L u (w.heap.size+1) (.int .i64 a) (.int .i64 b) (.int .i64 f) (.int .i64 s) (.slice ol ln cl) (.slice og gn cg) (.int .i64 pl) (.int .i64 st)) (by omega)).step (Q04 _ w.heap.size (.int .i64 m.id) (.int .i64 m.lim) (.bool m.dr) (.slice oc m.c.length cc) (.slice ot m.t.length ct)) (by omega)).rd,hLn,by omega,(HBu.out.trans ((Q0L u (w.heap.size+1) (.int .i64 a) (.int .i64 b) (.int .i64 f) (.int .i64 s) (.slice ol ln cl) (.slice og gn cg) (.int .i64 pl) (.int .i64 st)).below (by omega) (by omega))).trans ((Q04 _ w.heap.size (.int .i64 m.id) (.int .i64 m.lim) (.bool m.dr) (.slice oc m.c.length cc) (.slice ot m.t.length ct)).below (by omega) (by simp <;> omega))⟩
 |true=>
  obtain ⟨hg0,hp0,hp1⟩:=HZ.out rfl
  obtain ⟨q,hq⟩:∃q:Nat,pl=q:=⟨pl.toNat,by omega⟩
  subst hq
  have hqn:q < gn:=by omega
  obtain ⟨bg,rfl,hgb⟩:∃bg,og=some ⟨bg,0,none⟩∧W2.heap.size≤bg:=by
   rcases HG5.out.lo with h|⟨b',ho,hl,_⟩
   ·have:=HGL.out;rw [h] at this;simp at this;omega
   ·exact ⟨b',ho,hl⟩
  have hgx:=HGB.out bg rfl
  have hsc:=RdG.two (ownG.rd HG5.out) (show q < g.length by have:=HGL.out;omega)
  obtain ⟨d0,d1⟩:=hsc
  have h5:W5.ownsRow W2.heap.size 41 2 (.slice (some ⟨bg,0,none⟩) gn cg) g.length (Q3H g):=HG5.out
  rw [HGL.out] at h5
  have df:W5.frozen? ⟨bg,q * 2,none⟩=false:=by
   have h6:=World.ownsRow.frozenAt h5 (q * 2)
   exact h6
  have hgl5:=(HG5.out.lt bg rfl).2
  obtain ⟨k0,k1,k2,k3,k4,kf⟩:=Q3P HA5.out
  obtain ⟨c0,c1,c2,c3,c4,c5,c6,c7,cf⟩:=Q1D HX5.out
  obtain ⟨W6,hW6⟩:∃W,W5.setCell ⟨bg,q * 2,none⟩ (.int .i64 m.id)=W:=⟨_,rfl⟩
  have st6:Stp bg (bg+1) W5 W6:=by rw [←hW6];exact Q0s W5 bg (q * 2) _
  have s6:W5.heap.size≤W6.heap.size:=st6.size
  have HGG:=Q00 (RdGL.set2 HG5.out.lo (show q < g.length by have:=HGL.out;omega) hW6)
  have HGE:(g.set q (m.id,(g.getD q (0,0)).2)).length=gn:=by rw [List.length_set];exact HGL.out
  have HA:=Q00 (st6.box HA5.out (.inl (by omega)))
  have HX:=Q00 (st6.box HX5.out (.inr (by omega)))
  have HRR:=Q00 (st6.box HR5.out (.inl (by omega)))
  have HQ:=Q00 (st6.box HQ5.out (.inl (by omega)))
  have HB:=Q00 (HB5.out.trans (st6.below (by omega) HB5.out.size))
  have HRC:=Q00 (HRC5.out.step st6 (.inr hgb))
  have HRT:=Q00 (HRT5.out.step st6 (.inr hgb))
  have HC:=Q00 (HC5.out.below (st6.below (by omega) (by omega)))
  go_upto_region 6 with fail
  clear d0 d1 df k0 k1 k2 k3 k4 kf c0 c1 c2 c3 c4 c5 c6 c7 cf h5 st6 hW6 HG5 HGL HA5 HX5 HR5 HQ5 HB5 HRC5 HRT5 HC5 HZ
  obtain ⟨t3,ht3⟩:∃z,IntKind.i64.wrap (st+3)=z:=⟨_,rfl⟩
  obtain ⟨t10,ht10⟩:∃z,IntKind.i64.wrap (st+10)=z:=⟨_,rfl⟩
  obtain ⟨t11,ht11⟩:∃z,IntKind.i64.wrap (st+11)=z:=⟨_,rfl⟩
  have hp:Below W6.heap.size W6 (W6.alloc (.cells #[.int .i64 st,.int .i64 t3,.int .i64 t10,.int .i64 t11,.int .i64 0,.int .i64 100001] 3)).drew:=Below.drew ((Below.refl _ _).alloc (Kaq _) _)
  have HP:=Q00 (Q8q K W6.heap.size 6 [st,t3,t10,t11,0,100001] rfl (W6.alloc (.cells #[.int .i64 st,.int .i64 t3,.int .i64 t10,.int .i64 t11,.int .i64 0,.int .i64 100001] 3)).drew (HC.out.below (hp.mono (by omega))) (by simp) (by omega) (by simp) (by simp) (fun q hq=> by
    match q,hq with
    |0,_=> simp [go_sem]
    |1,_=> simp [go_sem]
    |2,_=> simp [go_sem]
    |3,_=> simp [go_sem]
    |4,_=> simp [go_sem]
    |5,_=> simp [go_sem]))
  obtain ⟨k0,k1,k2,k3,k4,kf⟩:=Q3P HA.out
  obtain ⟨c0,c1,c2,c3,c4,c5,c6,c7,cf⟩:=Q1D HX.out
  have z1:Ba < W6.heap.size:=by omega
  have z2:Bx < W6.heap.size:=by omega
  have z3:Ba < W6.heap.size+1:=by omega
  have z4:Bx < W6.heap.size+1:=by omega
  go_region_held3 (fun w'=> w'.cell? ⟨Ba,0,none⟩=some (.int .i64 m.id)∧w'.cell? ⟨Ba,1,none⟩=some (.int .i64 m.lim)∧w'.cell? ⟨Ba,2,none⟩=some (.bool m.dr)∧w'.cell? ⟨Ba,3,none⟩=some (.slice oc m.c.length cc)∧w'.cell? ⟨Ba,4,none⟩=some (.slice ot m.t.length ct)∧w'.cell? ⟨Bx,0,none⟩=some (.int .i64 a)∧w'.cell? ⟨Bx,1,none⟩=some (.int .i64 b)∧w'.cell? ⟨Bx,2,none⟩=some (.int .i64 f)∧w'.cell? ⟨Bx,3,none⟩=some (.int .i64 s)∧w'.cell? ⟨Bx,4,none⟩=some (.slice ol ln cl)∧w'.cell? ⟨Bx,5,none⟩=some (.slice (some ⟨bg,0,none⟩) gn cg)∧w'.cell? ⟨Bx,6,none⟩=some (.int .i64 (q:Int))∧w'.cell? ⟨Bx,7,none⟩=some (.int .i64 st)) (first|with_reducible exact ⟨pk0,pk1,pk2,pk3,pk4,pc0,pc1,pc2,pc3,pc4,pc5,pc6,pc7⟩|with_reducible exact ⟨(Q0R pk0 (show w.heap.size≠Ba by omega)),(Q0R pk1 (show w.heap.size≠Ba by omega)),(Q0R pk2 (show w.heap.size≠Ba by omega)),(Q0R pk3 (show w.heap.size≠Ba by omega)),(Q0R pk4 (show w.heap.size≠Ba by omega)),(Q0R pc0 (show w.heap.size≠Bx by omega)),(Q0R pc1 (show w.heap.size≠Bx by omega)),(Q0R pc2 (show w.heap.size≠Bx by omega)),(Q0R pc3 (show w.heap.size≠Bx by omega)),(Q0R pc4 (show w.heap.size≠Bx by omega)),(Q0R pc5 (show w.heap.size≠Bx by omega)),(Q0R pc6 (show w.heap.size≠Bx by omega)),(Q0R pc7 (show w.heap.size≠Bx by omega))⟩|with_reducible exact ⟨(Q0S pk0 (show w.heap.size+1≠Ba by omega)),(Q0S pk1 (show w.heap.size+1≠Ba by omega)),(Q0S pk2 (show w.heap.size+1≠Ba by omega)),(Q0S pk3 (show w.heap.size+1≠Ba by omega)),(Q0S pk4 (show w.heap.size+1≠Ba by omega)),(Q0S pc0 (show w.heap.size+1≠Bx by omega)),(Q0S pc1 (show w.heap.size+1≠Bx by omega)),(Q0S pc2 (show w.heap.size+1≠Bx by omega)),(Q0S pc3 (show w.heap.size+1≠Bx by omega)),(Q0S pc4 (show w.heap.size+1≠Bx by omega)),(Q0S pc5 (show w.heap.size+1≠Bx by omega)),(Q0S pc6 (show w.heap.size+1≠Bx by omega)),(Q0S pc7 (show w.heap.size+1≠Bx by omega))⟩|with_reducible exact ⟨(Q0S (Q0R pk0 (show w.heap.size≠Ba by omega)) (show w.heap.size+1≠Ba by omega)),(Q0S (Q0R pk1 (show w.heap.size≠Ba by omega)) (show w.heap.size+1≠Ba by omega)),(Q0S (Q0R pk2 (show w.heap.size≠Ba by omega)) (show w.heap.size+1≠Ba by omega)),(Q0S (Q0R pk3 (show w.heap.size≠Ba by omega)) (show w.heap.size+1≠Ba by omega)),(Q0S (Q0R pk4 (show w.heap.size≠Ba by omega)) (show w.heap.size+1≠Ba by omega)),(Q0S (Q0R pc0 (show w.heap.size≠Bx by omega)) (show w.heap.size+1≠Bx by omega)),(Q0S (Q0R pc1 (show w.heap.size≠Bx by omega)) (show w.heap.size+1≠Bx by omega)),(Q0S (Q0R pc2 (show w.heap.size≠Bx by omega)) (show w.heap.size+1≠Bx by omega)),(Q0S (Q0R pc3 (show w.heap.size≠Bx by omega)) (show w.heap.size+1≠Bx by omega)),(Q0S (Q0R pc4 (show w.heap.size≠Bx by omega)) (show w.heap.size+1≠Bx by omega)),(Q0S (Q0R pc5 (show w.heap.size≠Bx by omega)) (show w.heap.size+1≠Bx by omega)),(Q0S (Q0R pc6 (show w.heap.size≠Bx by omega)) (show w.heap.size+1≠Bx by omega)),(Q0S (Q0R pc7 (show w.heap.size≠Bx by omega)) (show w.heap.size+1≠Bx by omega))⟩|with_reducible exact ⟨(Q0R (Q0S pk0 (show w.heap.size+1≠Ba by omega)) (show w.heap.size≠Ba by omega)),(Q0R (Q0S pk1 (show w.heap.size+1≠Ba by omega)) (show w.heap.size≠Ba by omega)),(Q0R (Q0S pk2 (show w.heap.size+1≠Ba by omega)) (show w.heap.size≠Ba by omega)),(Q0R (Q0S pk3 (show w.heap.size+1≠Ba by omega)) (show w.heap.size≠Ba by omega)),(Q0R (Q0S pk4 (show w.heap.size+1≠Ba by omega)) (show w.heap.size≠Ba by omega)),(Q0R (Q0S pc0 (show w.heap.size+1≠Bx by omega)) (show w.heap.size≠Bx by omega)),(Q0R (Q0S pc1 (show w.heap.size+1≠Bx by omega)) (show w.heap.size≠Bx by omega)),(Q0R (Q0S pc2 (show w.heap.size+1≠Bx by omega)) (show w.heap.size≠Bx by omega)),(Q0R (Q0S pc3 (show w.heap.size+1≠Bx by omega)) (show w.heap.size≠Bx by omega)),(Q0R (Q0S pc4 (show w.heap.size+1≠Bx by omega)) (show w.heap.size≠Bx by omega)),(Q0R (Q0S pc5 (show w.heap.size+1≠Bx by omega)) (show w.heap.size≠Bx by omega)),(Q0R (Q0S pc6 (show w.heap.size+1≠Bx by omega)) (show w.heap.size≠Bx by omega)),(Q0R (Q0S pc7 (show w.heap.size+1≠Bx by omega)) (show w.heap.size≠Bx by omega))⟩|with_reducible exact ⟨k0,k1,k2,k3,k4,c0,c1,c2,c3,c4,c5,c6,c7⟩|go_keep) (first|(go_at_call 25;(with_reducible refine HP.out.mono ?_);rintro e u ⟨now,rfl,hcu,su⟩;have S:Stp K (K+1) W6 u:=(Stp.of hp).trans su;have sz:=S.size;have HAu:=Q00 (S.box HA.out (.inr (by omega)));have HXu:=Q00 (S.box HX.out (.inr (by omega)));have HRu:=Q00 (S.box HRR.out (.inl (by omega)));have HQu:=Q00 (S.box HQ.out (.inl (by omega)));obtain ⟨pk0,pk1,pk2,pk3,pk4,pkf⟩:=Q3P HAu.out;obtain ⟨pc0,pc1,pc2,pc3,pc4,pc5,pc6,pc7,pcf⟩:=Q1D HXu.out;obtain ⟨r0,r1,r2,r3,r4,rf⟩:=Q3P HRu.out;obtain ⟨q0,q1,q2,q3,q4,q5,q6,q7,qf⟩:=Q1D HQu.out;have rf0:=rf 0;have rf1:=rf 1;have rf2:=rf 2;have rf3:=rf 3;have rf4:=rf 4;have qf0:=qf 0;have qf1:=qf 1;have qf2:=qf 2;have qf3:=qf 3;have qf4:=qf 4;have qf5:=qf 5;have qf6:=qf 6;have qf7:=qf 7;clear hcu su)|fail)
  all_goals go_wp2
  all_goals have HRCu:=Q00 (HRC.out.step S (.inl (by omega)))
  all_goals have HRTu:=Q00 (HRT.out.step S (.inl (by omega)))
  all_goals have HGu:=Q00 (HGG.out.step S (by omega))
  all_goals have HBu:=Q00 (HB.out.trans (S.below (by omega) HB.out.size))
  all_goals refine bodyPost_ret (v:=.tuple #[(agt m.id m.lim m.dr (.slice oc m.c.length cc) (.slice ot m.t.length ct)),.int .i64 now,crr a b f s (.slice ol ln cl) (.slice (some ⟨bg,0,none⟩) gn cg) (q:Int) st]) (by simp [results,Try.results5,go_sem,r0,r1,r2,r3,r4,q0,q1,q2,q3,q4,q5,q6,q7]) rfl ?_
  all_goals first
   |exact ⟨m,oc,cc,ot,ct,now,a,b,f,s,ol,ln,cl,_,cg,(g.set q (m.id,(g.getD q (0,0)).2)),(q:Int),st,by rw [HGE],HLN.out,⟨_,_,rfl,(((HRCu.out.step (Q04 u w.heap.size (.int .i64 m.id) (.int .i64 m.lim) (.bool m.dr) (.slice oc m.c.length cc) (.slice ot m.t.length ct)) (.inl (by omega))).step (Q0L _ (w.heap.size+1) (.int .i64 a) (.int .i64 b) (.int .i64 f) (.int .i64 s) (.slice ol ln cl) (.slice (some ⟨bg,0,none⟩) gn cg) (.int .i64 (q:Int)) (.int .i64 st)) (.inl (by omega))).rd),(((HRTu.out.step (Q04 u w.heap.size (.int .i64 m.id) (.int .i64 m.lim) (.bool m.dr) (.slice oc m.c.length cc) (.slice ot m.t.length ct)) (.inl (by omega))).step (Q0L _ (w.heap.size+1) (.int .i64 a) (.int .i64 b) (.int .i64 f) (.int .i64 s) (.slice ol ln cl) (.slice (some ⟨bg,0,none⟩) gn cg) (.int .i64 (q:Int)) (.int .i64 st)) (.inl (by omega))).rd)⟩,((HGu.out.step (Q04 u w.heap.size (.int .i64 m.id) (.int .i64 m.lim) (.bool m.dr) (.slice oc m.c.length cc) (.slice ot m.t.length ct)) (by omega)).step (Q0L _ (w.heap.size+1) (.int .i64 a) (.int .i64 b) (.int .i64 f) (.int .i64 s) (.slice ol ln cl) (.slice (some ⟨bg,0,none⟩) gn cg) (.int .i64 (q:Int)) (.int .i64 st)) (by omega)).rd,hLn,by omega,(HBu.out.trans ((Q04 u w.heap.size (.int .i64 m.id) (.int .i64 m.lim) (.bool m.dr) (.slice oc m.c.length cc) (.slice ot m.t.length ct)).below (by omega) (by omega))).trans ((Q0L _ (w.heap.size+1) (.int .i64 a) (.int .i64 b) (.int .i64 f) (.int .i64 s) (.slice ol ln cl) (.slice (some ⟨bg,0,none⟩) gn cg) (.int .i64 (q:Int)) (.int .i64 st)).below (by omega) (by simp <;> omega))⟩
   |exact ⟨m,oc,cc,ot,ct,now,a,b,f,s,ol,ln,cl,_,cg,(g.set q (m.id,(g.getD q (0,0)).2)),(q:Int),st,by rw [HGE],HLN.out,⟨_,_,rfl,(((HRCu.out.step (Q0L u (w.heap.size+1) (.int .i64 a) (.int .i64 b) (.int .i64 f) (.int .i64 s) (.slice ol ln cl) (.slice (some ⟨bg,0,none⟩) gn cg) (.int .i64 (q:Int)) (.int .i64 st)) (.inl (by omega))).step (Q04 _ w.heap.size (.int .i64 m.id) (.int .i64 m.lim) (.bool m.dr) (.slice oc m.c.length cc) (.slice ot m.t.length ct)) (.inl (by omega))).rd),(((HRTu.out.step (Q0L u (w.heap.size+1) (.int .i64 a) (.int .i64 b) (.int .i64 f) (.int .i64 s) (.slice ol ln cl) (.slice (some ⟨bg,0,none⟩) gn cg) (.int .i64 (q:Int)) (.int .i64 st)) (.inl (by omega))).step (Q04 _ w.heap.size (.int .i64 m.id) (.int .i64 m.lim) (.bool m.dr) (.slice oc m.c.length cc) (.slice ot m.t.length ct)) (.inl (by omega))).rd)⟩,((HGu.out.step (Q0L u (w.heap.size+1) (.int .i64 a) (.int .i64 b) (.int .i64 f) (.int .i64 s) (.slice ol ln cl) (.slice (some ⟨bg,0,none⟩) gn cg) (.int .i64 (q:Int)) (.int .i64 st)) (by omega)).step (Q04 _ w.heap.size (.int .i64 m.id) (.int .i64 m.lim) (.bool m.dr) (.slice oc m.c.length cc) (.slice ot m.t.length ct)) (by omega)).rd,hLn,by omega,(HBu.out.trans ((Q0L u (w.heap.size+1) (.int .i64 a) (.int .i64 b) (.int .i64 f) (.int .i64 s) (.slice ol ln cl) (.slice (some ⟨bg,0,none⟩) gn cg) (.int .i64 (q:Int)) (.int .i64 st)).below (by omega) (by omega))).trans ((Q04 _ w.heap.size (.int .i64 m.id) (.int .i64 m.lim) (.bool m.dr) (.slice oc m.c.length cc) (.slice ot m.t.length ct)).below (by omega) (by simp <;> omega))⟩
end Go.Proofs.Ytljogkoaaidlcaa
