/- For all bytes the law FnLoads answers true, and the bytes read as they did. No conditions. -/
import Derived.Test.YtljogkoaaidlcaaQLoadsL33
import Derived.Test.YtljogkoaaidlcaaQLoadsL34
import Derived.Test.YtljogkoaaidlcaaQLoadsL37
namespace Go.Proofs.Ytljogkoaaidlcaa
open Go.ChangeShapes Go.WideShapes Go.ChangeAt Go.RowKit Go.Joins
set_option linter.unusedVariables false
set_option linter.unusedSimpArgs false
set_option maxRecDepth 100000
set_option maxHeartbeats 40000000
theorem Q0y {C:Nat} {w:World} {i l:Int} {d:Bool} {vc vt:Value} {m:Am} (h:RdA C w (agt i l d vc vt) m):RdT C w (tab vc) m.c∧RdT C w (tab vt) m.t:=by
 obtain ⟨vc',vt',e,h1,h2⟩:=h
 have e2:vc=vc'∧vt=vt':=by
  simp only [agt,Value.agg.injEq,Array.mk.injEq,List.cons.injEq] at e
  exact ⟨e.2.2.2.1,e.2.2.2.2.1⟩
 obtain ⟨rfl,rfl⟩:=e2
 exact ⟨⟨_,rfl,h1⟩,⟨_,rfl,h2⟩⟩
theorem Q0K (o:Option Addr) (c:Nat) {n:Nat} {l:List Sl} (w:World) (hn:l.length=n) (hR:RdT w.heap.size w (tab (.slice o n c)) l) (hl:l.length≤1048576):
  Calls Try.prog 20 #[tab (.slice o n c)] w fun e w'=> e=.returned (.int .i64 (Q0A l))∧Below w.heap.size w w':=by
 obtain ⟨vl,e,o',c',rfl,r⟩:=hR
 subst hn
 have e2:o=o'∧c=c':=by
  simp only [tab,Value.agg.injEq,Array.mk.injEq,List.cons.injEq,Value.slice.injEq] at e
  exact ⟨e.1.1,e.1.2.2⟩
 obtain ⟨rfl,rfl⟩:=e2
 exact Q3Q o c l w r hl
theorem Q7s (o:Option Addr) (cap:Nat) (l:List Int) (w:World) (hm:l.length≤maxLen) (hR:Rd w o l) (hB8:isB l):
  Calls Try.prog 4 #[.slice o l.length cap] w fun e w'=> e=.returned (.bool true)∧Below w.heap.size w w':=by
 have hD:=Q5e o cap l w hR hB8 hm
 go_enter Try.func4,Try.ntmps4
 go_wp2_with fail
 refine hD.mono ?_
 rintro e v0 ⟨m,oc,cc,ot,ct,x,rfl,hln,hr,hb1⟩
 have HF:Hid (m.c.length+m.t.length≤1048576):=Q00 (by omega)
 have HFx:Hid ((Q3m m x).c.length+(Q3m m x).t.length≤1048576):=Q00 (Q7f x HF.out)
 have HFy:Hid ((Q1R m).c.length+(Q1R m).t.length≤1048576):=Q00 (Q63 HF.out)
 obtain ⟨n1,hn1⟩:∃n,m.c.length=n:=⟨_,rfl⟩
 obtain ⟨n2,hn2⟩:∃n,m.t.length=n:=⟨_,rfl⟩
 rw [hn1,hn2] at hr
 simp only [hn1,hn2]
 have HN:=Q00 (And.intro hn1 hn2)
 have HB:=Q00 hb1
 have HRa:=Q00 hr
 clear hD hR hB8 hm hln hr hb1 hn1 hn2
 obtain ⟨W1,hW1⟩:∃W,(v0.alloc (.cells #[.int .i64 m.id,.int .i64 m.lim,.bool m.dr,.slice oc n1 cc,.slice ot n2 ct] 27))=W:=⟨_,rfl⟩
 have hb_W1:Below v0.heap.size v0 W1:=by rw [←hW1];exact (Below.refl _ _).alloc (Kaq _) _
 replace HB:=Q00 (HB.out.trans (hb_W1.mono HB.out.size))
 replace HRa:Hid (RdA W1.heap.size W1 (agt m.id m.lim m.dr (.slice oc n1 cc) (.slice ot n2 ct)) m):=Q00 ((HRa.out.kept hb_W1 (Kaq _)).le hb_W1.size)
 have za:v0.heap.size < W1.heap.size:=by rw [←hW1];simp
 have a0:W1.cell? ⟨v0.heap.size,0,none⟩=some (.int .i64 m.id):=by rw [←hW1];simp [go_sem]
 have a1:W1.cell? ⟨v0.heap.size,1,none⟩=some (.int .i64 m.lim):=by rw [←hW1];simp [go_sem]
 have a2:W1.cell? ⟨v0.heap.size,2,none⟩=some (.bool m.dr):=by rw [←hW1];simp [go_sem]
 have a3:W1.cell? ⟨v0.heap.size,3,none⟩=some (.slice oc n1 cc):=by rw [←hW1];simp [go_sem]
 have a4:W1.cell? ⟨v0.heap.size,4,none⟩=some (.slice ot n2 ct):=by rw [←hW1];simp [go_sem]
 clear hb_W1
 have HL:=Q00 (fun W h=> Q5n (agt m.id m.lim m.dr (.slice oc n1 cc) (.slice ot n2 ct)) m x W h HF.out)
 have HG:=Q00 (fun W h=> Q40 (agt m.id m.lim m.dr (.slice oc n1 cc) (.slice ot n2 ct)) m W h HF.out)
 have HS:=Q00 (fun W h=> Q2w (agt m.id m.lim m.dr (.slice oc n1 cc) (.slice ot n2 ct)) m W h HF.out)
 have HO:=Q00 (fun W h=> Q0M (agt m.id m.lim m.dr (.slice oc n1 cc) (.slice ot n2 ct)) m W h HF.out)
 obtain ⟨A,hA⟩:∃A,Q0f m=A:=⟨_,rfl⟩
 obtain ⟨Lb,hLb⟩:∃A,Q3x m x=A:=⟨_,rfl⟩
 rw [hA] at HG HS HO
 rw [hLb] at HL
 have HA:=Q00 hA
 have HLb:=Q00 hLb
 clear hA hLb
 obtain ⟨mx,hmx⟩:∃q,Q3m m x=q:=⟨_,rfl⟩
 obtain ⟨my,hmy⟩:∃q,Q1R m=q:=⟨_,rfl⟩
 rw [hmx] at HL HFx
 rw [hmy] at HG HFy
 have HMX:=Q00 hmx
 have HMY:=Q00 hmy
 clear hmx hmy
 go_wp2_with fail
 refine (HL.out W1 HRa.out).mono ?_
 rintro e v1 ⟨vx,rfl,hi,hb⟩
 clear hW1
 replace a0:=(hb.cell (p:=⟨v0.heap.size,0,none⟩) za).trans a0
 replace a1:=(hb.cell (p:=⟨v0.heap.size,1,none⟩) za).trans a1
 replace a2:=(hb.cell (p:=⟨v0.heap.size,2,none⟩) za).trans a2
 replace a3:=(hb.cell (p:=⟨v0.heap.size,3,none⟩) za).trans a3
 replace a4:=(hb.cell (p:=⟨v0.heap.size,4,none⟩) za).trans a4
 replace za:v0.heap.size < v1.heap.size:=Kbq za hb.size
 replace HB:=Q00 (HB.out.trans (hb.mono HB.out.size))
 replace HRa:Hid (RdA v1.heap.size v1 (agt m.id m.lim m.dr (.slice oc n1 cc) (.slice ot n2 ct)) m):=Q00 ((HRa.out.kept hb (Kaq _)).le hb.size)
 have hr0:=hi.rd
 obtain ⟨_,_,rfl,⟨ox,cx,rfl,g1_⟩,⟨ou,cu,rfl,g2_⟩⟩:=hr0
 clear g1_ g2_
 have hr:=hi.rd
 have hl1:mx.c.length=mx.c.length:=rfl
 obtain ⟨nx1,hnx1⟩:∃n,mx.c.length=n:=⟨_,rfl⟩
 obtain ⟨nx2,hnx2⟩:∃n,mx.t.length=n:=⟨_,rfl⟩
 rw [hnx1,hnx2] at hr
 simp only [hnx1,hnx2]
 have HRx:=Q00 hr
 have HNx:=Q00 (And.intro hnx1 hnx2)
 clear hi hr hl1 hnx1 hnx2
 clear hb
 obtain ⟨W2,hW2⟩:∃W,(v1.alloc (.cells #[.int .i64 mx.id,.int .i64 mx.lim,.bool mx.dr,.slice ox nx1 cx,.slice ou nx2 cu] 27))=W:=⟨_,rfl⟩
 have hb_W2:Below v1.heap.size v1 W2:=by rw [←hW2];exact (Below.refl _ _).alloc (Kaq _) _
 replace a0:=(hb_W2.cell (p:=⟨v0.heap.size,0,none⟩) za).trans a0
 replace a1:=(hb_W2.cell (p:=⟨v0.heap.size,1,none⟩) za).trans a1
 replace a2:=(hb_W2.cell (p:=⟨v0.heap.size,2,none⟩) za).trans a2
 replace a3:=(hb_W2.cell (p:=⟨v0.heap.size,3,none⟩) za).trans a3
 replace a4:=(hb_W2.cell (p:=⟨v0.heap.size,4,none⟩) za).trans a4
 replace za:v0.heap.size < W2.heap.size:=Kbq za hb_W2.size
 replace HB:=Q00 (HB.out.trans (hb_W2.mono HB.out.size))
 replace HRa:Hid (RdA W2.heap.size W2 (agt m.id m.lim m.dr (.slice oc n1 cc) (.slice ot n2 ct)) m):=Q00 ((HRa.out.kept hb_W2 (Kaq _)).le hb_W2.size)
 have zx:v1.heap.size < W2.heap.size:=by rw [←hW2];simp
 have x0:W2.cell? ⟨v1.heap.size,0,none⟩=some (.int .i64 mx.id):=by rw [←hW2];simp [go_sem]
 have x1:W2.cell? ⟨v1.heap.size,1,none⟩=some (.int .i64 mx.lim):=by rw [←hW2];simp [go_sem]
 have x2:W2.cell? ⟨v1.heap.size,2,none⟩=some (.bool mx.dr):=by rw [←hW2];simp [go_sem]
 have x3:W2.cell? ⟨v1.heap.size,3,none⟩=some (.slice ox nx1 cx):=by rw [←hW2];simp [go_sem]
 have x4:W2.cell? ⟨v1.heap.size,4,none⟩=some (.slice ou nx2 cu):=by rw [←hW2];simp [go_sem]
 clear hb_W2
 replace HRx:Hid (RdA W2.heap.size W2 (agt mx.id mx.lim mx.dr (.slice ox nx1 cx) (.slice ou nx2 cu)) mx):=Q00 ((HRx.out.kept (show Below v1.heap.size v1 W2 by rw [←hW2];exact (Below.refl _ _).alloc (Kaq _) _) (Kaq _)).le (by rw [←hW2];simp))
 go_wp2_with fail
 refine (HG.out W2 HRa.out).mono ?_
 rintro e v2 ⟨vy,rfl,hi,hb⟩
 clear hW2
 replace a0:=(hb.cell (p:=⟨v0.heap.size,0,none⟩) za).trans a0
 replace a1:=(hb.cell (p:=⟨v0.heap.size,1,none⟩) za).trans a1
 replace a2:=(hb.cell (p:=⟨v0.heap.size,2,none⟩) za).trans a2
 replace a3:=(hb.cell (p:=⟨v0.heap.size,3,none⟩) za).trans a3
 replace a4:=(hb.cell (p:=⟨v0.heap.size,4,none⟩) za).trans a4
 replace za:v0.heap.size < v2.heap.size:=Kbq za hb.size
 replace x0:=(hb.cell (p:=⟨v1.heap.size,0,none⟩) zx).trans x0
 replace x1:=(hb.cell (p:=⟨v1.heap.size,1,none⟩) zx).trans x1
 replace x2:=(hb.cell (p:=⟨v1.heap.size,2,none⟩) zx).trans x2
 replace x3:=(hb.cell (p:=⟨v1.heap.size,3,none⟩) zx).trans x3
 replace x4:=(hb.cell (p:=⟨v1.heap.size,4,none⟩) zx).trans x4
 replace zx:v1.heap.size < v2.heap.size:=Kbq zx hb.size
 replace HB:=Q00 (HB.out.trans (hb.mono HB.out.size))
 replace HRa:Hid (RdA v2.heap.size v2 (agt m.id m.lim m.dr (.slice oc n1 cc) (.slice ot n2 ct)) m):=Q00 ((HRa.out.kept hb (Kaq _)).le hb.size)
 replace HRx:Hid (RdA v2.heap.size v2 (agt mx.id mx.lim mx.dr (.slice ox nx1 cx) (.slice ou nx2 cu)) mx):=Q00 ((HRx.out.kept hb (Kaq _)).le hb.size)
 have hr0:=hi.rd
 obtain ⟨_,_,rfl,⟨oy,cy,rfl,g1_⟩,⟨oz,cz,rfl,g2_⟩⟩:=hr0
 clear g1_ g2_
 have hr:=hi.rd
 have hl1:my.c.length=my.c.length:=rfl
 obtain ⟨ny1,hny1⟩:∃n,my.c.length=n:=⟨_,rfl⟩
 obtain ⟨ny2,hny2⟩:∃n,my.t.length=n:=⟨_,rfl⟩
 rw [hny1,hny2] at hr
 simp only [hny1,hny2]
 have HRy:=Q00 hr
 have HNy:=Q00 (And.intro hny1 hny2)
 clear hi hr hl1 hny1 hny2
 clear hb
 obtain ⟨W3,hW3⟩:∃W,(v2.alloc (.cells #[.int .i64 my.id,.int .i64 my.lim,.bool my.dr,.slice oy ny1 cy,.slice oz ny2 cz] 27))=W:=⟨_,rfl⟩
 have hb_W3:Below v2.heap.size v2 W3:=by rw [←hW3];exact (Below.refl _ _).alloc (Kaq _) _
 replace a0:=(hb_W3.cell (p:=⟨v0.heap.size,0,none⟩) za).trans a0
 replace a1:=(hb_W3.cell (p:=⟨v0.heap.size,1,none⟩) za).trans a1
 replace a2:=(hb_W3.cell (p:=⟨v0.heap.size,2,none⟩) za).trans a2
 replace a3:=(hb_W3.cell (p:=⟨v0.heap.size,3,none⟩) za).trans a3
 replace a4:=(hb_W3.cell (p:=⟨v0.heap.size,4,none⟩) za).trans a4
 replace za:v0.heap.size < W3.heap.size:=Kbq za hb_W3.size
 replace x0:=(hb_W3.cell (p:=⟨v1.heap.size,0,none⟩) zx).trans x0
 replace x1:=(hb_W3.cell (p:=⟨v1.heap.size,1,none⟩) zx).trans x1
 replace x2:=(hb_W3.cell (p:=⟨v1.heap.size,2,none⟩) zx).trans x2
 replace x3:=(hb_W3.cell (p:=⟨v1.heap.size,3,none⟩) zx).trans x3
 replace x4:=(hb_W3.cell (p:=⟨v1.heap.size,4,none⟩) zx).trans x4
 replace zx:v1.heap.size < W3.heap.size:=Kbq zx hb_W3.size
 replace HB:=Q00 (HB.out.trans (hb_W3.mono HB.out.size))
 replace HRa:Hid (RdA W3.heap.size W3 (agt m.id m.lim m.dr (.slice oc n1 cc) (.slice ot n2 ct)) m):=Q00 ((HRa.out.kept hb_W3 (Kaq _)).le hb_W3.size)
 replace HRx:Hid (RdA W3.heap.size W3 (agt mx.id mx.lim mx.dr (.slice ox nx1 cx) (.slice ou nx2 cu)) mx):=Q00 ((HRx.out.kept hb_W3 (Kaq _)).le hb_W3.size)
 have zy:v2.heap.size < W3.heap.size:=by rw [←hW3];simp
 have y0:W3.cell? ⟨v2.heap.size,0,none⟩=some (.int .i64 my.id):=by rw [←hW3];simp [go_sem]
 have y1:W3.cell? ⟨v2.heap.size,1,none⟩=some (.int .i64 my.lim):=by rw [←hW3];simp [go_sem]
 have y2:W3.cell? ⟨v2.heap.size,2,none⟩=some (.bool my.dr):=by rw [←hW3];simp [go_sem]
 have y3:W3.cell? ⟨v2.heap.size,3,none⟩=some (.slice oy ny1 cy):=by rw [←hW3];simp [go_sem]
 have y4:W3.cell? ⟨v2.heap.size,4,none⟩=some (.slice oz ny2 cz):=by rw [←hW3];simp [go_sem]
 clear hb_W3
 replace HRy:Hid (RdA W3.heap.size W3 (agt my.id my.lim my.dr (.slice oy ny1 cy) (.slice oz ny2 cz)) my):=Q00 ((HRy.out.kept (show Below v2.heap.size v2 W3 by rw [←hW3];exact (Below.refl _ _).alloc (Kaq _) _) (Kaq _)).le (by rw [←hW3];simp))
 go_wp2_with fail
 refine (HS.out W3 HRa.out).mono ?_
 rintro e v3 ⟨rfl,hb⟩
 clear hW3
 replace a0:=(hb.cell (p:=⟨v0.heap.size,0,none⟩) za).trans a0
 replace a1:=(hb.cell (p:=⟨v0.heap.size,1,none⟩) za).trans a1
 replace a2:=(hb.cell (p:=⟨v0.heap.size,2,none⟩) za).trans a2
 replace a3:=(hb.cell (p:=⟨v0.heap.size,3,none⟩) za).trans a3
 replace a4:=(hb.cell (p:=⟨v0.heap.size,4,none⟩) za).trans a4
 replace za:v0.heap.size < v3.heap.size:=Kbq za hb.size
 replace x0:=(hb.cell (p:=⟨v1.heap.size,0,none⟩) zx).trans x0
 replace x1:=(hb.cell (p:=⟨v1.heap.size,1,none⟩) zx).trans x1
 replace x2:=(hb.cell (p:=⟨v1.heap.size,2,none⟩) zx).trans x2
 replace x3:=(hb.cell (p:=⟨v1.heap.size,3,none⟩) zx).trans x3
 replace x4:=(hb.cell (p:=⟨v1.heap.size,4,none⟩) zx).trans x4
 replace zx:v1.heap.size < v3.heap.size:=Kbq zx hb.size
 replace y0:=(hb.cell (p:=⟨v2.heap.size,0,none⟩) zy).trans y0
 replace y1:=(hb.cell (p:=⟨v2.heap.size,1,none⟩) zy).trans y1
 replace y2:=(hb.cell (p:=⟨v2.heap.size,2,none⟩) zy).trans y2
 replace y3:=(hb.cell (p:=⟨v2.heap.size,3,none⟩) zy).trans y3
 replace y4:=(hb.cell (p:=⟨v2.heap.size,4,none⟩) zy).trans y4
 replace zy:v2.heap.size < v3.heap.size:=Kbq zy hb.size
 replace HB:=Q00 (HB.out.trans (hb.mono HB.out.size))
 replace HRa:Hid (RdA v3.heap.size v3 (agt m.id m.lim m.dr (.slice oc n1 cc) (.slice ot n2 ct)) m):=Q00 ((HRa.out.kept hb (Kaq _)).le hb.size)
 replace HRx:Hid (RdA v3.heap.size v3 (agt mx.id mx.lim mx.dr (.slice ox nx1 cx) (.slice ou nx2 cu)) mx):=Q00 ((HRx.out.kept hb (Kaq _)).le hb.size)
 replace HRy:Hid (RdA v3.heap.size v3 (agt my.id my.lim my.dr (.slice oy ny1 cy) (.slice oz ny2 cz)) my):=Q00 ((HRy.out.kept hb (Kaq _)).le hb.size)
 clear hb
 cases A with
 |false=>
  have hl0:Lb=false:=by rw [←HLb.out];exact Q8j x HA.out
  subst hl0
  go_wp2_with fail
  refine (HO.out v3 HRa.out).mono ?_
  rintro e v4 ⟨rfl,hb⟩
  replace a0:=(hb.cell (p:=⟨v0.heap.size,0,none⟩) za).trans a0
  replace a1:=(hb.cell (p:=⟨v0.heap.size,1,none⟩) za).trans a1
  replace a2:=(hb.cell (p:=⟨v0.heap.size,2,none⟩) za).trans a2
  replace a3:=(hb.cell (p:=⟨v0.heap.size,3,none⟩) za).trans a3
  replace a4:=(hb.cell (p:=⟨v0.heap.size,4,none⟩) za).trans a4
  replace za:v0.heap.size < v4.heap.size:=Kbq za hb.size
  replace x0:=(hb.cell (p:=⟨v1.heap.size,0,none⟩) zx).trans x0
  replace x1:=(hb.cell (p:=⟨v1.heap.size,1,none⟩) zx).trans x1
  replace x2:=(hb.cell (p:=⟨v1.heap.size,2,none⟩) zx).trans x2
  replace x3:=(hb.cell (p:=⟨v1.heap.size,3,none⟩) zx).trans x3
  replace x4:=(hb.cell (p:=⟨v1.heap.size,4,none⟩) zx).trans x4
  replace zx:v1.heap.size < v4.heap.size:=Kbq zx hb.size
  replace y0:=(hb.cell (p:=⟨v2.heap.size,0,none⟩) zy).trans y0
  replace y1:=(hb.cell (p:=⟨v2.heap.size,1,none⟩) zy).trans y1
  replace y2:=(hb.cell (p:=⟨v2.heap.size,2,none⟩) zy).trans y2
  replace y3:=(hb.cell (p:=⟨v2.heap.size,3,none⟩) zy).trans y3
  replace y4:=(hb.cell (p:=⟨v2.heap.size,4,none⟩) zy).trans y4
  replace zy:v2.heap.size < v4.heap.size:=Kbq zy hb.size
  replace HB:=Q00 (HB.out.trans (hb.mono HB.out.size))
  replace HRa:Hid (RdA v4.heap.size v4 (agt m.id m.lim m.dr (.slice oc n1 cc) (.slice ot n2 ct)) m):=Q00 ((HRa.out.kept hb (Kaq _)).le hb.size)
  replace HRx:Hid (RdA v4.heap.size v4 (agt mx.id mx.lim mx.dr (.slice ox nx1 cx) (.slice ou nx2 cu)) mx):=Q00 ((HRx.out.kept hb (Kaq _)).le hb.size)
  replace HRy:Hid (RdA v4.heap.size v4 (agt my.id my.lim my.dr (.slice oy ny1 cy) (.slice oz ny2 cz)) my):=Q00 ((HRy.out.kept hb (Kaq _)).le hb.size)
  clear hb
  go_wp2_with fail
  refine (Q2i v4).mono ?_
  rintro e v5 ⟨rfl,hb⟩
  replace a0:=(hb.cell (p:=⟨v0.heap.size,0,none⟩) za).trans a0
  replace a1:=(hb.cell (p:=⟨v0.heap.size,1,none⟩) za).trans a1
  replace a2:=(hb.cell (p:=⟨v0.heap.size,2,none⟩) za).trans a2
  replace a3:=(hb.cell (p:=⟨v0.heap.size,3,none⟩) za).trans a3
  replace a4:=(hb.cell (p:=⟨v0.heap.size,4,none⟩) za).trans a4
  replace za:v0.heap.size < v5.heap.size:=Kbq za hb.size
  replace x0:=(hb.cell (p:=⟨v1.heap.size,0,none⟩) zx).trans x0
  replace x1:=(hb.cell (p:=⟨v1.heap.size,1,none⟩) zx).trans x1
  replace x2:=(hb.cell (p:=⟨v1.heap.size,2,none⟩) zx).trans x2
  replace x3:=(hb.cell (p:=⟨v1.heap.size,3,none⟩) zx).trans x3
  replace x4:=(hb.cell (p:=⟨v1.heap.size,4,none⟩) zx).trans x4
  replace zx:v1.heap.size < v5.heap.size:=Kbq zx hb.size
  replace y0:=(hb.cell (p:=⟨v2.heap.size,0,none⟩) zy).trans y0
  replace y1:=(hb.cell (p:=⟨v2.heap.size,1,none⟩) zy).trans y1
  replace y2:=(hb.cell (p:=⟨v2.heap.size,2,none⟩) zy).trans y2
  replace y3:=(hb.cell (p:=⟨v2.heap.size,3,none⟩) zy).trans y3
  replace y4:=(hb.cell (p:=⟨v2.heap.size,4,none⟩) zy).trans y4
  replace zy:v2.heap.size < v5.heap.size:=Kbq zy hb.size
  replace HB:=Q00 (HB.out.trans (hb.mono HB.out.size))
  replace HRa:Hid (RdA v5.heap.size v5 (agt m.id m.lim m.dr (.slice oc n1 cc) (.slice ot n2 ct)) m):=Q00 ((HRa.out.kept hb (Kaq _)).le hb.size)
  replace HRx:Hid (RdA v5.heap.size v5 (agt mx.id mx.lim mx.dr (.slice ox nx1 cx) (.slice ou nx2 cu)) mx):=Q00 ((HRx.out.kept hb (Kaq _)).le hb.size)
  replace HRy:Hid (RdA v5.heap.size v5 (agt my.id my.lim my.dr (.slice oy ny1 cy) (.slice oz ny2 cz)) my):=Q00 ((HRy.out.kept hb (Kaq _)).le hb.size)
  clear hb
  go_wp2
  go_ret
  exact ⟨rfl,HB.out⟩
 |true=>
  have ey:my=({ m with dr:=true }:Am):=HMY.out.symm.trans (Q7c HA.out)
  clear HMY
  subst ey
  replace y0:v3.cell? ⟨v2.heap.size,0,none⟩=some (.int .i64 m.id):=y0
  replace y1:v3.cell? ⟨v2.heap.size,1,none⟩=some (.int .i64 m.lim):=y1
  replace y2:v3.cell? ⟨v2.heap.size,2,none⟩=some (.bool true):=y2
  replace HRy:Hid (RdA v3.heap.size v3 (agt m.id m.lim true (.slice oy ny1 cy) (.slice oz ny2 cz)) ({ m with dr:=true }:Am)):=HRy
  have eyn:n1=ny1:=HN.out.1.symm.trans HNy.out.1
  clear HNy
  subst eyn
  cases Lb with
  |true=>
   have hly:=Q7D HLb.out
   have ex:mx=({ m with lim:=x }:Am):=HMX.out.symm.trans hly.1
   have hxo:Q0f ({ m with lim:=x }:Am)=true:=hly.1 ▸ hly.2.1
   have hx0:=hly.2.2.1
   have hx16:=hly.2.2.2
   clear HMX hly
   subst ex
   replace x0:v3.cell? ⟨v1.heap.size,0,none⟩=some (.int .i64 m.id):=x0
   replace x1:v3.cell? ⟨v1.heap.size,1,none⟩=some (.int .i64 x):=x1
   replace x2:v3.cell? ⟨v1.heap.size,2,none⟩=some (.bool m.dr):=x2
   replace HRx:Hid (RdA v3.heap.size v3 (agt m.id x m.dr (.slice ox nx1 cx) (.slice ou nx2 cu)) ({ m with lim:=x }:Am)):=HRx
   have exn:n1=nx1:=HN.out.1.symm.trans HNx.out.1
   clear HNx
   subst exn
   have HOX:=Q00 (fun W h=> Q0M (agt m.id x m.dr (.slice ox n1 cx) (.slice ou nx2 cu)) ({ m with lim:=x }:Am) W h HFx.out)
   rw [hxo] at HOX
   clear hxo
   go_wp2_with fail
   refine (Q1h (tab (.slice ox n1 cx)) (tab (.slice oc n1 cc)) m.c v3 (Q0y HRx.out).1 (Q0y HRa.out).1 (Kdq (Nat.le_add_right _ _) HF.out)).mono ?_
   rintro e v4 ⟨rfl,hb⟩
   replace a0:=(hb.cell (p:=⟨v0.heap.size,0,none⟩) za).trans a0
   replace a1:=(hb.cell (p:=⟨v0.heap.size,1,none⟩) za).trans a1
   replace a2:=(hb.cell (p:=⟨v0.heap.size,2,none⟩) za).trans a2
   replace a3:=(hb.cell (p:=⟨v0.heap.size,3,none⟩) za).trans a3
   replace a4:=(hb.cell (p:=⟨v0.heap.size,4,none⟩) za).trans a4
   replace za:v0.heap.size < v4.heap.size:=Kbq za hb.size
   replace x0:=(hb.cell (p:=⟨v1.heap.size,0,none⟩) zx).trans x0
   replace x1:=(hb.cell (p:=⟨v1.heap.size,1,none⟩) zx).trans x1
   replace x2:=(hb.cell (p:=⟨v1.heap.size,2,none⟩) zx).trans x2
   replace x3:=(hb.cell (p:=⟨v1.heap.size,3,none⟩) zx).trans x3
   replace x4:=(hb.cell (p:=⟨v1.heap.size,4,none⟩) zx).trans x4
   replace zx:v1.heap.size < v4.heap.size:=Kbq zx hb.size
   replace y0:=(hb.cell (p:=⟨v2.heap.size,0,none⟩) zy).trans y0
   replace y1:=(hb.cell (p:=⟨v2.heap.size,1,none⟩) zy).trans y1
   replace y2:=(hb.cell (p:=⟨v2.heap.size,2,none⟩) zy).trans y2
   replace y3:=(hb.cell (p:=⟨v2.heap.size,3,none⟩) zy).trans y3
   replace y4:=(hb.cell (p:=⟨v2.heap.size,4,none⟩) zy).trans y4
   replace zy:v2.heap.size < v4.heap.size:=Kbq zy hb.size
   replace HB:=Q00 (HB.out.trans (hb.mono HB.out.size))
   replace HRa:Hid (RdA v4.heap.size v4 (agt m.id m.lim m.dr (.slice oc n1 cc) (.slice ot n2 ct)) m):=Q00 ((HRa.out.kept hb (Kaq _)).le hb.size)
   replace HRx:Hid (RdA v4.heap.size v4 (agt m.id x m.dr (.slice ox n1 cx) (.slice ou nx2 cu)) ({ m with lim:=x }:Am)):=Q00 ((HRx.out.kept hb (Kaq _)).le hb.size)
   replace HRy:Hid (RdA v4.heap.size v4 (agt m.id m.lim true (.slice oy n1 cy) (.slice oz ny2 cz)) ({ m with dr:=true }:Am)):=Q00 ((HRy.out.kept hb (Kaq _)).le hb.size)
   clear hb
   go_wp2_with fail
   refine (HOX.out v4 HRx.out).mono ?_
   rintro e v5 ⟨rfl,hb⟩
   replace a0:=(hb.cell (p:=⟨v0.heap.size,0,none⟩) za).trans a0
   replace a1:=(hb.cell (p:=⟨v0.heap.size,1,none⟩) za).trans a1
   replace a2:=(hb.cell (p:=⟨v0.heap.size,2,none⟩) za).trans a2
   replace a3:=(hb.cell (p:=⟨v0.heap.size,3,none⟩) za).trans a3
   replace a4:=(hb.cell (p:=⟨v0.heap.size,4,none⟩) za).trans a4
   replace za:v0.heap.size < v5.heap.size:=Kbq za hb.size
   replace x0:=(hb.cell (p:=⟨v1.heap.size,0,none⟩) zx).trans x0
   replace x1:=(hb.cell (p:=⟨v1.heap.size,1,none⟩) zx).trans x1
   replace x2:=(hb.cell (p:=⟨v1.heap.size,2,none⟩) zx).trans x2
   replace x3:=(hb.cell (p:=⟨v1.heap.size,3,none⟩) zx).trans x3
   replace x4:=(hb.cell (p:=⟨v1.heap.size,4,none⟩) zx).trans x4
   replace zx:v1.heap.size < v5.heap.size:=Kbq zx hb.size
   replace y0:=(hb.cell (p:=⟨v2.heap.size,0,none⟩) zy).trans y0
   replace y1:=(hb.cell (p:=⟨v2.heap.size,1,none⟩) zy).trans y1
   replace y2:=(hb.cell (p:=⟨v2.heap.size,2,none⟩) zy).trans y2
   replace y3:=(hb.cell (p:=⟨v2.heap.size,3,none⟩) zy).trans y3
   replace y4:=(hb.cell (p:=⟨v2.heap.size,4,none⟩) zy).trans y4
   replace zy:v2.heap.size < v5.heap.size:=Kbq zy hb.size
   replace HB:=Q00 (HB.out.trans (hb.mono HB.out.size))
   replace HRa:Hid (RdA v5.heap.size v5 (agt m.id m.lim m.dr (.slice oc n1 cc) (.slice ot n2 ct)) m):=Q00 ((HRa.out.kept hb (Kaq _)).le hb.size)
   replace HRx:Hid (RdA v5.heap.size v5 (agt m.id x m.dr (.slice ox n1 cx) (.slice ou nx2 cu)) ({ m with lim:=x }:Am)):=Q00 ((HRx.out.kept hb (Kaq _)).le hb.size)
   replace HRy:Hid (RdA v5.heap.size v5 (agt m.id m.lim true (.slice oy n1 cy) (.slice oz ny2 cz)) ({ m with dr:=true }:Am)):=Q00 ((HRy.out.kept hb (Kaq _)).le hb.size)
   clear hb
   go_wp2_with fail
   refine (Q1h (tab (.slice oy n1 cy)) (tab (.slice oc n1 cc)) m.c v5 (Q0y HRy.out).1 (Q0y HRa.out).1 (Kdq (Nat.le_add_right _ _) HF.out)).mono ?_
   rintro e v6 ⟨rfl,hb⟩
   replace a0:=(hb.cell (p:=⟨v0.heap.size,0,none⟩) za).trans a0
   replace a1:=(hb.cell (p:=⟨v0.heap.size,1,none⟩) za).trans a1
   replace a2:=(hb.cell (p:=⟨v0.heap.size,2,none⟩) za).trans a2
   replace a3:=(hb.cell (p:=⟨v0.heap.size,3,none⟩) za).trans a3
   replace a4:=(hb.cell (p:=⟨v0.heap.size,4,none⟩) za).trans a4
   replace za:v0.heap.size < v6.heap.size:=Kbq za hb.size
   replace HB:=Q00 (HB.out.trans (hb.mono HB.out.size))
   replace HRa:Hid (RdA v6.heap.size v6 (agt m.id m.lim m.dr (.slice oc n1 cc) (.slice ot n2 ct)) m):=Q00 ((HRa.out.kept hb (Kaq _)).le hb.size)
   clear hb x0 x1 x2 x3 x4 y0 y1 y2 y3 y4 HRx HRy HOX zx zy
   have htb:Q3l m 30=true:=by simp [Q3l,HA.out]
   have hty:=Q4M HA.out htb
   have HFz:Hid ((Q1E m 30).c.length+(Q1E m 30).t.length≤1048576):=Q00 (Q3B 30 HF.out)
   have HT:=Q00 (fun W h=> Q1f (agt m.id m.lim m.dr (.slice oc n1 cc) (.slice ot n2 ct)) m 30 W h HF.out)
   obtain ⟨mz,hmz⟩:∃q,Q1E m 30=q:=⟨_,rfl⟩
   obtain ⟨tn,htn⟩:∃q,Q42 m 30=q:=⟨_,rfl⟩
   rw [hmz] at HT hty HFz
   rw [htn] at HT hty
   have HTY:=Q00 hty
   clear hmz htn htb hty
   go_wp2_with fail
   refine (HT.out v6 HRa.out).mono ?_
   rintro e v7 ⟨vz,rfl,hi,hb⟩
   replace a0:=(hb.cell (p:=⟨v0.heap.size,0,none⟩) za).trans a0
   replace a1:=(hb.cell (p:=⟨v0.heap.size,1,none⟩) za).trans a1
   replace a2:=(hb.cell (p:=⟨v0.heap.size,2,none⟩) za).trans a2
   replace a3:=(hb.cell (p:=⟨v0.heap.size,3,none⟩) za).trans a3
   replace a4:=(hb.cell (p:=⟨v0.heap.size,4,none⟩) za).trans a4
   replace za:v0.heap.size < v7.heap.size:=Kbq za hb.size
   replace HB:=Q00 (HB.out.trans (hb.mono HB.out.size))
   replace HRa:Hid (RdA v7.heap.size v7 (agt m.id m.lim m.dr (.slice oc n1 cc) (.slice ot n2 ct)) m):=Q00 ((HRa.out.kept hb (Kaq _)).le hb.size)
   have hr0:=hi.rd
   obtain ⟨_,_,rfl,⟨ov,cv,rfl,g1_⟩,⟨os,cs,rfl,g2_⟩⟩:=hr0
   have hr:=hi.rd
   obtain ⟨nz1,hnz1⟩:∃n,mz.c.length=n:=⟨_,rfl⟩
   obtain ⟨nz2,hnz2⟩:∃n,mz.t.length=n:=⟨_,rfl⟩
   rw [hnz1,hnz2] at hr
   simp only [hnz1,hnz2]
   have HRz:=Q00 hr
   have HNz:=Q00 (And.intro hnz1 hnz2)
   clear hi hr g1_ g2_ hnz1 hnz2 hb
   obtain ⟨W8,hW8⟩:∃W,(v7.alloc (.cells #[.int .i64 mz.id,.int .i64 mz.lim,.bool mz.dr,.slice ov nz1 cv,.slice os nz2 cs] 27))=W:=⟨_,rfl⟩
   have hb_W8:Below v7.heap.size v7 W8:=by rw [←hW8];exact (Below.refl _ _).alloc (Kaq _) _
   replace a0:=(hb_W8.cell (p:=⟨v0.heap.size,0,none⟩) za).trans a0
   replace a1:=(hb_W8.cell (p:=⟨v0.heap.size,1,none⟩) za).trans a1
   replace a2:=(hb_W8.cell (p:=⟨v0.heap.size,2,none⟩) za).trans a2
   replace a3:=(hb_W8.cell (p:=⟨v0.heap.size,3,none⟩) za).trans a3
   replace a4:=(hb_W8.cell (p:=⟨v0.heap.size,4,none⟩) za).trans a4
   replace za:v0.heap.size < W8.heap.size:=Kbq za hb_W8.size
   replace HB:=Q00 (HB.out.trans (hb_W8.mono HB.out.size))
   replace HRa:Hid (RdA W8.heap.size W8 (agt m.id m.lim m.dr (.slice oc n1 cc) (.slice ot n2 ct)) m):=Q00 ((HRa.out.kept hb_W8 (Kaq _)).le hb_W8.size)
   replace HRz:Hid (RdA W8.heap.size W8 (agt mz.id mz.lim mz.dr (.slice ov nz1 cv) (.slice os nz2 cs)) mz):=Q00 ((HRz.out.kept hb_W8 (Kaq _)).le hb_W8.size)
   have zz:v7.heap.size < W8.heap.size:=by rw [←hW8];simp
   clear hb_W8
   have z0:W8.cell? ⟨v7.heap.size,0,none⟩=some (.int .i64 mz.id):=by rw [←hW8];simp [go_sem]
   have z1:W8.cell? ⟨v7.heap.size,1,none⟩=some (.int .i64 mz.lim):=by rw [←hW8];simp [go_sem]
   have z2:W8.cell? ⟨v7.heap.size,2,none⟩=some (.bool mz.dr):=by rw [←hW8];simp [go_sem]
   have z3:W8.cell? ⟨v7.heap.size,3,none⟩=some (.slice ov nz1 cv):=by rw [←hW8];simp [go_sem]
   have z4:W8.cell? ⟨v7.heap.size,4,none⟩=some (.slice os nz2 cs):=by rw [←hW8];simp [go_sem]
   have t0:Q0f mz=true:=HTY.out.1
   have t1:0≤tn:=HTY.out.2.1
   have t2:tn≤1000:=HTY.out.2.2.1
   have t3:=HTY.out.2.2.2
   obtain ⟨p1,hp1⟩:∃q,Q0A mz.c=q:=⟨_,rfl⟩
   obtain ⟨p2,hp2⟩:∃q,Q0A mz.t=q:=⟨_,rfl⟩
   obtain ⟨q1,hq1⟩:∃q,Q0A m.c=q:=⟨_,rfl⟩
   obtain ⟨q2,hq2⟩:∃q,Q0A m.t=q:=⟨_,rfl⟩
   rw [hp1,hp2,hq1,hq2] at t3
   have hw1:IntKind.i64.wrap (p1+p2)=p1+p2:=by rw [IntKind.wrap_i64];omega
   have hw2:IntKind.i64.wrap (p1+p2+tn)=q1+q2:=by rw [t3.1,IntKind.wrap_i64];omega
   have hw3:IntKind.i64.wrap (q1+q2)=q1+q2:=by rw [IntKind.wrap_i64];omega
   have HOZ:=Q00 (fun p:Grown W8=> Q0M (agt mz.id mz.lim mz.dr (.slice ov nz1 cv) (.slice os nz2 cs)) mz p.v ((HRz.out.kept p.b (Kaq _)).le p.b.size) HFz.out)
   rw [t0] at HOZ
   have HC1:=Q00 (fun p:Grown W8=> Q0K ov cv p.v HNz.out.1 (Q0y ((HRz.out.kept p.b (Kaq _)).le p.b.size)).1 (Kdq (Nat.le_add_right _ _) HFz.out))
   have HC2:=Q00 (fun p:Grown W8=> Q0K os cs p.v HNz.out.2 (Q0y ((HRz.out.kept p.b (Kaq _)).le p.b.size)).2 (Kdq (Nat.le_add_left _ _) HFz.out))
   have HC3:=Q00 (fun p:Grown W8=> Q0K oc cc p.v HN.out.1 (Q0y ((HRa.out.kept p.b (Kaq _)).le p.b.size)).1 (Kdq (Nat.le_add_right _ _) HF.out))
   have HC4:=Q00 (fun p:Grown W8=> Q0K ot ct p.v HN.out.2 (Q0y ((HRa.out.kept p.b (Kaq _)).le p.b.size)).2 (Kdq (Nat.le_add_left _ _) HF.out))
   rw [hp1] at HC1
   rw [hp2] at HC2
   rw [hq1] at HC3
   rw [hq2] at HC4
   have Gz0:=Grown.cell z0 zz
   have Gz1:=Grown.cell z1 zz
   have Gz2:=Grown.cell z2 zz
   have Gz3:=Grown.cell z3 zz
   have Gz4:=Grown.cell z4 zz
   have Ga3:=Grown.cell a3 za
   have Ga4:=Grown.cell a4 za
   clear t0 t2 t3 hp1 hp2 hq1 hq2 HTY HL HG HS HO HF HFx HFy
   go_wp2
   (refine Q03 (by kernel_rfl) (by kernel_rfl) ?_;intro hne9;(repeat (go_big_quiet_step (first|(go_at_call 9;exact Q06 _ (HOZ.out _))|(go_at_call 7;exact Q06 _ (Q2i _))|(go_at_call 20;first|(with_reducible exact Q06 _ (HC1.out _))|(with_reducible exact Q06 _ (HC2.out _))|(with_reducible exact Q06 _ (HC3.out _))|(with_reducible exact Q06 _ (HC4.out _))))));(with_reducible refine wpQuiet_nil ?_);intro _ hw9;obtain ⟨pq,hw8⟩:=hw9;subst hw8)
   obtain ⟨g1,hg1⟩:∃W,pq.v=W:=⟨_,rfl⟩
   have hb:=pq.b
   rw [hg1] at hb ⊢
   have HBg:=Q00 (HB.out.trans (hb.mono HB.out.size))
   clear hb hg1 Gz0 Gz1 Gz2 Gz3 Gz4 Ga3 Ga4
   go_wp2
   go_ret
   exact ⟨rfl,HBg.out⟩
  |false=>
   have hli:=Q8e x HA.out
   rw [HLb.out] at hli
   have hcase:x < 0∨(0≤x∧16 < x):=by
    by_cases h:0≤x
    ·right;refine ⟨h, ?_⟩;by_cases h2:x≤16
     ·simp [h,h2] at hli
     ·omega
    ·left;omega
   clear hli HLb
   rcases hcase with hneg|hbig
   ·have hn2:¬(0≤x):=by omega
    go_wp2_with fail
    refine (Q1h (tab (.slice oy n1 cy)) (tab (.slice oc n1 cc)) m.c v3 (Q0y HRy.out).1 (Q0y HRa.out).1 (Kdq (Nat.le_add_right _ _) HF.out)).mono ?_
    rintro e v6 ⟨rfl,hb⟩
    replace a0:=(hb.cell (p:=⟨v0.heap.size,0,none⟩) za).trans a0
    replace a1:=(hb.cell (p:=⟨v0.heap.size,1,none⟩) za).trans a1
    replace a2:=(hb.cell (p:=⟨v0.heap.size,2,none⟩) za).trans a2
    replace a3:=(hb.cell (p:=⟨v0.heap.size,3,none⟩) za).trans a3
    replace a4:=(hb.cell (p:=⟨v0.heap.size,4,none⟩) za).trans a4
    replace za:v0.heap.size < v6.heap.size:=Kbq za hb.size
    replace HB:=Q00 (HB.out.trans (hb.mono HB.out.size))
    replace HRa:Hid (RdA v6.heap.size v6 (agt m.id m.lim m.dr (.slice oc n1 cc) (.slice ot n2 ct)) m):=Q00 ((HRa.out.kept hb (Kaq _)).le hb.size)
    clear hb x0 x1 x2 x3 x4 y0 y1 y2 y3 y4 HRx HRy zx zy
    have htb:Q3l m 30=true:=by simp [Q3l,HA.out]
    have hty:=Q4M HA.out htb
    have HFz:Hid ((Q1E m 30).c.length+(Q1E m 30).t.length≤1048576):=Q00 (Q3B 30 HF.out)
    have HT:=Q00 (fun W h=> Q1f (agt m.id m.lim m.dr (.slice oc n1 cc) (.slice ot n2 ct)) m 30 W h HF.out)
    obtain ⟨mz,hmz⟩:∃q,Q1E m 30=q:=⟨_,rfl⟩
    obtain ⟨tn,htn⟩:∃q,Q42 m 30=q:=⟨_,rfl⟩
    rw [hmz] at HT hty HFz
    rw [htn] at HT hty
    have HTY:=Q00 hty
    clear hmz htn htb hty
    go_wp2_with fail
    refine (HT.out v6 HRa.out).mono ?_
    rintro e v7 ⟨vz,rfl,hi,hb⟩
    replace a0:=(hb.cell (p:=⟨v0.heap.size,0,none⟩) za).trans a0
    replace a1:=(hb.cell (p:=⟨v0.heap.size,1,none⟩) za).trans a1
    replace a2:=(hb.cell (p:=⟨v0.heap.size,2,none⟩) za).trans a2
    replace a3:=(hb.cell (p:=⟨v0.heap.size,3,none⟩) za).trans a3
    replace a4:=(hb.cell (p:=⟨v0.heap.size,4,none⟩) za).trans a4
    replace za:v0.heap.size < v7.heap.size:=Kbq za hb.size
    replace HB:=Q00 (HB.out.trans (hb.mono HB.out.size))
    replace HRa:Hid (RdA v7.heap.size v7 (agt m.id m.lim m.dr (.slice oc n1 cc) (.slice ot n2 ct)) m):=Q00 ((HRa.out.kept hb (Kaq _)).le hb.size)
    have hr0:=hi.rd
    obtain ⟨_,_,rfl,⟨ov,cv,rfl,g1_⟩,⟨os,cs,rfl,g2_⟩⟩:=hr0
    have hr:=hi.rd
    obtain ⟨nz1,hnz1⟩:∃n,mz.c.length=n:=⟨_,rfl⟩
    obtain ⟨nz2,hnz2⟩:∃n,mz.t.length=n:=⟨_,rfl⟩
    rw [hnz1,hnz2] at hr
    simp only [hnz1,hnz2]
    have HRz:=Q00 hr
    have HNz:=Q00 (And.intro hnz1 hnz2)
    clear hi hr g1_ g2_ hnz1 hnz2 hb
    obtain ⟨W8,hW8⟩:∃W,(v7.alloc (.cells #[.int .i64 mz.id,.int .i64 mz.lim,.bool mz.dr,.slice ov nz1 cv,.slice os nz2 cs] 27))=W:=⟨_,rfl⟩
    have hb_W8:Below v7.heap.size v7 W8:=by rw [←hW8];exact (Below.refl _ _).alloc (Kaq _) _
    replace a0:=(hb_W8.cell (p:=⟨v0.heap.size,0,none⟩) za).trans a0
    replace a1:=(hb_W8.cell (p:=⟨v0.heap.size,1,none⟩) za).trans a1
    replace a2:=(hb_W8.cell (p:=⟨v0.heap.size,2,none⟩) za).trans a2
    replace a3:=(hb_W8.cell (p:=⟨v0.heap.size,3,none⟩) za).trans a3
    replace a4:=(hb_W8.cell (p:=⟨v0.heap.size,4,none⟩) za).trans a4
    replace za:v0.heap.size < W8.heap.size:=Kbq za hb_W8.size
    replace HB:=Q00 (HB.out.trans (hb_W8.mono HB.out.size))
    replace HRa:Hid (RdA W8.heap.size W8 (agt m.id m.lim m.dr (.slice oc n1 cc) (.slice ot n2 ct)) m):=Q00 ((HRa.out.kept hb_W8 (Kaq _)).le hb_W8.size)
    replace HRz:Hid (RdA W8.heap.size W8 (agt mz.id mz.lim mz.dr (.slice ov nz1 cv) (.slice os nz2 cs)) mz):=Q00 ((HRz.out.kept hb_W8 (Kaq _)).le hb_W8.size)
    have zz:v7.heap.size < W8.heap.size:=by rw [←hW8];simp
    clear hb_W8
    have z0:W8.cell? ⟨v7.heap.size,0,none⟩=some (.int .i64 mz.id):=by rw [←hW8];simp [go_sem]
    have z1:W8.cell? ⟨v7.heap.size,1,none⟩=some (.int .i64 mz.lim):=by rw [←hW8];simp [go_sem]
    have z2:W8.cell? ⟨v7.heap.size,2,none⟩=some (.bool mz.dr):=by rw [←hW8];simp [go_sem]
    have z3:W8.cell? ⟨v7.heap.size,3,none⟩=some (.slice ov nz1 cv):=by rw [←hW8];simp [go_sem]
    have z4:W8.cell? ⟨v7.heap.size,4,none⟩=some (.slice os nz2 cs):=by rw [←hW8];simp [go_sem]
    have t0:Q0f mz=true:=HTY.out.1
    have t1:0≤tn:=HTY.out.2.1
    have t2:tn≤1000:=HTY.out.2.2.1
    have t3:=HTY.out.2.2.2
    obtain ⟨p1,hp1⟩:∃q,Q0A mz.c=q:=⟨_,rfl⟩
    obtain ⟨p2,hp2⟩:∃q,Q0A mz.t=q:=⟨_,rfl⟩
    obtain ⟨q1,hq1⟩:∃q,Q0A m.c=q:=⟨_,rfl⟩
    obtain ⟨q2,hq2⟩:∃q,Q0A m.t=q:=⟨_,rfl⟩
    rw [hp1,hp2,hq1,hq2] at t3
    have hw1:IntKind.i64.wrap (p1+p2)=p1+p2:=by rw [IntKind.wrap_i64];omega
    have hw2:IntKind.i64.wrap (p1+p2+tn)=q1+q2:=by rw [t3.1,IntKind.wrap_i64];omega
    have hw3:IntKind.i64.wrap (q1+q2)=q1+q2:=by rw [IntKind.wrap_i64];omega
    have HOZ:=Q00 (fun p:Grown W8=> Q0M (agt mz.id mz.lim mz.dr (.slice ov nz1 cv) (.slice os nz2 cs)) mz p.v ((HRz.out.kept p.b (Kaq _)).le p.b.size) HFz.out)
    rw [t0] at HOZ
    have HC1:=Q00 (fun p:Grown W8=> Q0K ov cv p.v HNz.out.1 (Q0y ((HRz.out.kept p.b (Kaq _)).le p.b.size)).1 (Kdq (Nat.le_add_right _ _) HFz.out))
    have HC2:=Q00 (fun p:Grown W8=> Q0K os cs p.v HNz.out.2 (Q0y ((HRz.out.kept p.b (Kaq _)).le p.b.size)).2 (Kdq (Nat.le_add_left _ _) HFz.out))
    have HC3:=Q00 (fun p:Grown W8=> Q0K oc cc p.v HN.out.1 (Q0y ((HRa.out.kept p.b (Kaq _)).le p.b.size)).1 (Kdq (Nat.le_add_right _ _) HF.out))
    have HC4:=Q00 (fun p:Grown W8=> Q0K ot ct p.v HN.out.2 (Q0y ((HRa.out.kept p.b (Kaq _)).le p.b.size)).2 (Kdq (Nat.le_add_left _ _) HF.out))
    rw [hp1] at HC1
    rw [hp2] at HC2
    rw [hq1] at HC3
    rw [hq2] at HC4
    have Gz0:=Grown.cell z0 zz
    have Gz1:=Grown.cell z1 zz
    have Gz2:=Grown.cell z2 zz
    have Gz3:=Grown.cell z3 zz
    have Gz4:=Grown.cell z4 zz
    have Ga3:=Grown.cell a3 za
    have Ga4:=Grown.cell a4 za
    clear t0 t2 t3 hp1 hp2 hq1 hq2 HTY HL HG HS HO HF HFx HFy
    go_wp2
    (refine Q03 (by kernel_rfl) (by kernel_rfl) ?_;intro hne9;(repeat (go_big_quiet_step (first|(go_at_call 9;exact Q06 _ (HOZ.out _))|(go_at_call 7;exact Q06 _ (Q2i _))|(go_at_call 20;first|(with_reducible exact Q06 _ (HC1.out _))|(with_reducible exact Q06 _ (HC2.out _))|(with_reducible exact Q06 _ (HC3.out _))|(with_reducible exact Q06 _ (HC4.out _))))));(with_reducible refine wpQuiet_nil ?_);intro _ hw9;obtain ⟨pq,hw8⟩:=hw9;subst hw8)
    obtain ⟨g1,hg1⟩:∃W,pq.v=W:=⟨_,rfl⟩
    have hb:=pq.b
    rw [hg1] at hb ⊢
    have HBg:=Q00 (HB.out.trans (hb.mono HB.out.size))
    clear hb hg1 Gz0 Gz1 Gz2 Gz3 Gz4 Ga3 Ga4
    go_wp2
    go_ret
    exact ⟨rfl,HBg.out⟩
   ·have hx0:0≤x:=hbig.1
    have hx16:¬(x≤16):=by omega
    clear hbig
    go_wp2_with fail
    refine (Q1h (tab (.slice oy n1 cy)) (tab (.slice oc n1 cc)) m.c v3 (Q0y HRy.out).1 (Q0y HRa.out).1 (Kdq (Nat.le_add_right _ _) HF.out)).mono ?_
    rintro e v6 ⟨rfl,hb⟩
    replace a0:=(hb.cell (p:=⟨v0.heap.size,0,none⟩) za).trans a0
    replace a1:=(hb.cell (p:=⟨v0.heap.size,1,none⟩) za).trans a1
    replace a2:=(hb.cell (p:=⟨v0.heap.size,2,none⟩) za).trans a2
    replace a3:=(hb.cell (p:=⟨v0.heap.size,3,none⟩) za).trans a3
    replace a4:=(hb.cell (p:=⟨v0.heap.size,4,none⟩) za).trans a4
    replace za:v0.heap.size < v6.heap.size:=Kbq za hb.size
    replace HB:=Q00 (HB.out.trans (hb.mono HB.out.size))
    replace HRa:Hid (RdA v6.heap.size v6 (agt m.id m.lim m.dr (.slice oc n1 cc) (.slice ot n2 ct)) m):=Q00 ((HRa.out.kept hb (Kaq _)).le hb.size)
    clear hb x0 x1 x2 x3 x4 y0 y1 y2 y3 y4 HRx HRy zx zy
    have htb:Q3l m 30=true:=by simp [Q3l,HA.out]
    have hty:=Q4M HA.out htb
    have HFz:Hid ((Q1E m 30).c.length+(Q1E m 30).t.length≤1048576):=Q00 (Q3B 30 HF.out)
    have HT:=Q00 (fun W h=> Q1f (agt m.id m.lim m.dr (.slice oc n1 cc) (.slice ot n2 ct)) m 30 W h HF.out)
    obtain ⟨mz,hmz⟩:∃q,Q1E m 30=q:=⟨_,rfl⟩
    obtain ⟨tn,htn⟩:∃q,Q42 m 30=q:=⟨_,rfl⟩
    rw [hmz] at HT hty HFz
    rw [htn] at HT hty
    have HTY:=Q00 hty
    clear hmz htn htb hty
    go_wp2_with fail
    refine (HT.out v6 HRa.out).mono ?_
    rintro e v7 ⟨vz,rfl,hi,hb⟩
    replace a0:=(hb.cell (p:=⟨v0.heap.size,0,none⟩) za).trans a0
    replace a1:=(hb.cell (p:=⟨v0.heap.size,1,none⟩) za).trans a1
    replace a2:=(hb.cell (p:=⟨v0.heap.size,2,none⟩) za).trans a2
    replace a3:=(hb.cell (p:=⟨v0.heap.size,3,none⟩) za).trans a3
    replace a4:=(hb.cell (p:=⟨v0.heap.size,4,none⟩) za).trans a4
    replace za:v0.heap.size < v7.heap.size:=Kbq za hb.size
    replace HB:=Q00 (HB.out.trans (hb.mono HB.out.size))
    replace HRa:Hid (RdA v7.heap.size v7 (agt m.id m.lim m.dr (.slice oc n1 cc) (.slice ot n2 ct)) m):=Q00 ((HRa.out.kept hb (Kaq _)).le hb.size)
    have hr0:=hi.rd
    obtain ⟨_,_,rfl,⟨ov,cv,rfl,g1_⟩,⟨os,cs,rfl,g2_⟩⟩:=hr0
    have hr:=hi.rd
    obtain ⟨nz1,hnz1⟩:∃n,mz.c.length=n:=⟨_,rfl⟩
    obtain ⟨nz2,hnz2⟩:∃n,mz.t.length=n:=⟨_,rfl⟩
    rw [hnz1,hnz2] at hr
    simp only [hnz1,hnz2]
    have HRz:=Q00 hr
    have HNz:=Q00 (And.intro hnz1 hnz2)
    clear hi hr g1_ g2_ hnz1 hnz2 hb
    obtain ⟨W8,hW8⟩:∃W,(v7.alloc (.cells #[.int .i64 mz.id,.int .i64 mz.lim,.bool mz.dr,.slice ov nz1 cv,.slice os nz2 cs] 27))=W:=⟨_,rfl⟩
    have hb_W8:Below v7.heap.size v7 W8:=by rw [←hW8];exact (Below.refl _ _).alloc (Kaq _) _
    replace a0:=(hb_W8.cell (p:=⟨v0.heap.size,0,none⟩) za).trans a0
    replace a1:=(hb_W8.cell (p:=⟨v0.heap.size,1,none⟩) za).trans a1
    replace a2:=(hb_W8.cell (p:=⟨v0.heap.size,2,none⟩) za).trans a2
    replace a3:=(hb_W8.cell (p:=⟨v0.heap.size,3,none⟩) za).trans a3
    replace a4:=(hb_W8.cell (p:=⟨v0.heap.size,4,none⟩) za).trans a4
    replace za:v0.heap.size < W8.heap.size:=Kbq za hb_W8.size
    replace HB:=Q00 (HB.out.trans (hb_W8.mono HB.out.size))
    replace HRa:Hid (RdA W8.heap.size W8 (agt m.id m.lim m.dr (.slice oc n1 cc) (.slice ot n2 ct)) m):=Q00 ((HRa.out.kept hb_W8 (Kaq _)).le hb_W8.size)
    replace HRz:Hid (RdA W8.heap.size W8 (agt mz.id mz.lim mz.dr (.slice ov nz1 cv) (.slice os nz2 cs)) mz):=Q00 ((HRz.out.kept hb_W8 (Kaq _)).le hb_W8.size)
    have zz:v7.heap.size < W8.heap.size:=by rw [←hW8];simp
    clear hb_W8
    have z0:W8.cell? ⟨v7.heap.size,0,none⟩=some (.int .i64 mz.id):=by rw [←hW8];simp [go_sem]
    have z1:W8.cell? ⟨v7.heap.size,1,none⟩=some (.int .i64 mz.lim):=by rw [←hW8];simp [go_sem]
    have z2:W8.cell? ⟨v7.heap.size,2,none⟩=some (.bool mz.dr):=by rw [←hW8];simp [go_sem]
    have z3:W8.cell? ⟨v7.heap.size,3,none⟩=some (.slice ov nz1 cv):=by rw [←hW8];simp [go_sem]
    have z4:W8.cell? ⟨v7.heap.size,4,none⟩=some (.slice os nz2 cs):=by rw [←hW8];simp [go_sem]
    have t0:Q0f mz=true:=HTY.out.1
    have t1:0≤tn:=HTY.out.2.1
    have t2:tn≤1000:=HTY.out.2.2.1
    have t3:=HTY.out.2.2.2
    obtain ⟨p1,hp1⟩:∃q,Q0A mz.c=q:=⟨_,rfl⟩
    obtain ⟨p2,hp2⟩:∃q,Q0A mz.t=q:=⟨_,rfl⟩
    obtain ⟨q1,hq1⟩:∃q,Q0A m.c=q:=⟨_,rfl⟩
    obtain ⟨q2,hq2⟩:∃q,Q0A m.t=q:=⟨_,rfl⟩
    rw [hp1,hp2,hq1,hq2] at t3
    have hw1:IntKind.i64.wrap (p1+p2)=p1+p2:=by rw [IntKind.wrap_i64];omega
    have hw2:IntKind.i64.wrap (p1+p2+tn)=q1+q2:=by rw [t3.1,IntKind.wrap_i64];omega
    have hw3:IntKind.i64.wrap (q1+q2)=q1+q2:=by rw [IntKind.wrap_i64];omega
    have HOZ:=Q00 (fun p:Grown W8=> Q0M (agt mz.id mz.lim mz.dr (.slice ov nz1 cv) (.slice os nz2 cs)) mz p.v ((HRz.out.kept p.b (Kaq _)).le p.b.size) HFz.out)
    rw [t0] at HOZ
    have HC1:=Q00 (fun p:Grown W8=> Q0K ov cv p.v HNz.out.1 (Q0y ((HRz.out.kept p.b (Kaq _)).le p.b.size)).1 (Kdq (Nat.le_add_right _ _) HFz.out))
    have HC2:=Q00 (fun p:Grown W8=> Q0K os cs p.v HNz.out.2 (Q0y ((HRz.out.kept p.b (Kaq _)).le p.b.size)).2 (Kdq (Nat.le_add_left _ _) HFz.out))
    have HC3:=Q00 (fun p:Grown W8=> Q0K oc cc p.v HN.out.1 (Q0y ((HRa.out.kept p.b (Kaq _)).le p.b.size)).1 (Kdq (Nat.le_add_right _ _) HF.out))
    have HC4:=Q00 (fun p:Grown W8=> Q0K ot ct p.v HN.out.2 (Q0y ((HRa.out.kept p.b (Kaq _)).le p.b.size)).2 (Kdq (Nat.le_add_left _ _) HF.out))
    rw [hp1] at HC1
    rw [hp2] at HC2
    rw [hq1] at HC3
    rw [hq2] at HC4
    have Gz0:=Grown.cell z0 zz
    have Gz1:=Grown.cell z1 zz
    have Gz2:=Grown.cell z2 zz
    have Gz3:=Grown.cell z3 zz
    have Gz4:=Grown.cell z4 zz
    have Ga3:=Grown.cell a3 za
    have Ga4:=Grown.cell a4 za
    clear t0 t2 t3 hp1 hp2 hq1 hq2 HTY HL HG HS HO HF HFx HFy
    go_wp2
    (refine Q03 (by kernel_rfl) (by kernel_rfl) ?_;intro hne9;(repeat (go_big_quiet_step (first|(go_at_call 9;exact Q06 _ (HOZ.out _))|(go_at_call 7;exact Q06 _ (Q2i _))|(go_at_call 20;first|(with_reducible exact Q06 _ (HC1.out _))|(with_reducible exact Q06 _ (HC2.out _))|(with_reducible exact Q06 _ (HC3.out _))|(with_reducible exact Q06 _ (HC4.out _))))));(with_reducible refine wpQuiet_nil ?_);intro _ hw9;obtain ⟨pq,hw8⟩:=hw9;subst hw8)
    obtain ⟨g1,hg1⟩:∃W,pq.v=W:=⟨_,rfl⟩
    have hb:=pq.b
    rw [hg1] at hb ⊢
    have HBg:=Q00 (HB.out.trans (hb.mono HB.out.size))
    clear hb hg1 Gz0 Gz1 Gz2 Gz3 Gz4 Ga3 Ga4
    go_wp2
    go_ret
    exact ⟨rfl,HBg.out⟩
theorem fnLoads_lifted (os:Os) (started:os.Started) (H:Type) (enc:TypeId × Value→H):
  ReturnsInHanded {} Try.checked os 4 .any (Rows.fnLoadsSpec.pre6 enc Try.prog Try.f4 Rows.fnLoadsRow.domain false) (Rows.fnLoadsSpec.post enc Try.prog Try.f4 false true false false):=by
 refine returnsInHanded_of_change (C:=Try.checked) own started (by kernel_rfl) Try.func4
  (ChangeSpec.witness6 (enc:=enc) (C:=Try.checked) false ⟨#[],#[.slice none 0 0],[]⟩ 8 (by kernel_rfl) (by kernel_rfl) (by kernel_rfl) (by kernel_rfl)) ?_
 intro W base args ds gs before hval0 hW hcnd _
 have hval:∀(j:Nat) t v,Try.f4.params[j]? =some t→args[j]? =some v→Value.okWide Try.prog W .any base t v:=hval0
 have hW':=hW
 obtain ⟨p,q,hA0,hV,rfl,hfz,hnd⟩:=hW
 have hA:DataW.TrodAll enc Try.prog W 0 (fun _=> true) true Try.f4.params.toList args.toList ds p:=hA0
 rw [Try.params4] at hA hval
 obtain ⟨v0,vs0,d0,ds0,p0,q0,hargs,rfl,rfl,h0,r0⟩:=trodAll_cons hA
 obtain ⟨rfl,rfl,rfl⟩:=trodAll_nil r0
 obtain rfl:args=#[v0]:=by cases args;simp_all
 obtain ⟨rfl,rfl⟩:=trodVars_none hV
 have k0:=h0
 have lt0:∀x∈p0,x.block < W.heap.size:=by obtain ⟨m,hm⟩:=k0;exact DataW.trod_lt m _ _ _ hm
 obtain ⟨o0,cap0,l0,rfl,hm0,hR0,hB80⟩:=Q60 (hval 0 22 v0 rfl rfl) h0
 clear hA0 hval0
 refine (Q7s o0 cap0 l0 W hm0 hR0 hB80).mono fun e W' ⟨he,bel⟩=> ?_
 subst he
 exact ⟨_,rfl,_,_,_,[],_,[],hW',trodAll_mk1 (shut_bool Try.underlying4 _),(trodAll_cons_mk (Below.trod Q8s (by kernel_rfl) (of_decide_eq_true (by kernel_rfl)) k0 bel lt0) trodAll_mk0),rfl,bel.frame _,fun h=> by cases h⟩
theorem fnLoads_over:Rows.fnLoadsRow.holds Try.pinned (OpenSpec.ofChange Rows.fnLoadsSpec):=
 OpenClaim.holds_of_wide 4 Try.f4 rfl rfl rfl rfl rfl rfl rfl ⟨rfl,rfl,rfl,rfl,rfl⟩ rfl rfl rfl rfl rfl (by kernel_rfl) Try.func4 (by kernel_rfl)
  (of_decide_eq_true (by kernel_rfl)) (by unfold Func.isWrapper;first|(rw [if_pos (by decide+kernel)];kernel_rfl)|(rw [if_neg (by decide+kernel)];exact ⟨rfl,rfl⟩))
  (fun os started H enc _=> fnLoads_lifted os started H enc)
theorem fnLoads_holds:Rows.FnLoadsSaid:=fnLoads_over
end Go.Proofs.Ytljogkoaaidlcaa
