/- For all bytes the law FnHandles answers true, and the bytes read as they did. No conditions. -/
import Derived.Test.YtljogkoaaidlcaaQHandL28
import Derived.Test.YtljogkoaaidlcaaQHandL35
import Derived.Test.YtljogkoaaidlcaaQHandL36
import Derived.Test.YtljogkoaaidlcaaQHandL39
namespace Go.Proofs.Ytljogkoaaidlcaa
open Go.ChangeShapes Go.WideShapes Go.ChangeAt Go.RowKit Go.Joins
set_option linter.unusedVariables false
set_option linter.unusedSimpArgs false
set_option maxRecDepth 100000
set_option maxHeartbeats 40000000
theorem Q3k {C:Nat} {w:World} {i l:Int} {d:Bool} {vc vt:Value} {m:Am} (h:RdA C w (agt i l d vc vt) m):RdT C w (tab vc) m.c∧RdT C w (tab vt) m.t:=by
 obtain ⟨vc',vt',e,h1,h2⟩:=h
 have e2:vc=vc'∧vt=vt':=by
  simp only [agt,Value.agg.injEq,Array.mk.injEq,List.cons.injEq] at e
  exact ⟨e.2.2.2.1,e.2.2.2.2.1⟩
 obtain ⟨rfl,rfl⟩:=e2
 exact ⟨⟨_,rfl,h1⟩,⟨_,rfl,h2⟩⟩
theorem Q1l {m:Am} {oc ot ox ou:Option Addr} {n1 n2 n3 n4 cc ct cx cu:Nat} (w:World) (h1:RdA w.heap.size w (agt m.id m.lim m.dr (.slice oc n1 cc) (.slice ot n2 ct)) m) (h2:RdA w.heap.size w (agt m.id m.lim m.dr (.slice ox n3 cx) (.slice ou n4 cu)) m) (hf:m.c.length+m.t.length≤1048576):
  Calls Try.prog 13 #[agt m.id m.lim m.dr (.slice oc n1 cc) (.slice ot n2 ct),agt m.id m.lim m.dr (.slice ox n3 cx) (.slice ou n4 cu)] w fun e w'=> e=.returned (.bool true)∧Below w.heap.size w w':=by
 obtain ⟨W1,hW1⟩:∃W,((w.alloc (.cells #[.int .i64 m.id,.int .i64 m.lim,.bool m.dr,.slice oc n1 cc,.slice ot n2 ct] 27)).alloc (.cells #[.int .i64 m.id,.int .i64 m.lim,.bool m.dr,.slice ox n3 cx,.slice ou n4 cu] 27))=W:=⟨_,rfl⟩
 have hb:Below w.heap.size w W1:=by rw [←hW1];exact ((Below.refl _ _).alloc (Kaq _) _).alloc (by simp) _
 have za:w.heap.size < W1.heap.size:=by rw [←hW1];simp <;> omega
 have zb:w.heap.size+1 < W1.heap.size:=by rw [←hW1];simp
 have a0:W1.cell? ⟨w.heap.size,0,none⟩=some (.int .i64 m.id):=by rw [←hW1];simp [go_sem]
 have b0:W1.cell? ⟨w.heap.size+1,0,none⟩=some (.int .i64 m.id):=by rw [←hW1];simp [go_sem]
 have a1:W1.cell? ⟨w.heap.size,1,none⟩=some (.int .i64 m.lim):=by rw [←hW1];simp [go_sem]
 have b1:W1.cell? ⟨w.heap.size+1,1,none⟩=some (.int .i64 m.lim):=by rw [←hW1];simp [go_sem]
 have a2:W1.cell? ⟨w.heap.size,2,none⟩=some (.bool m.dr):=by rw [←hW1];simp [go_sem]
 have b2:W1.cell? ⟨w.heap.size+1,2,none⟩=some (.bool m.dr):=by rw [←hW1];simp [go_sem]
 have a3:W1.cell? ⟨w.heap.size,3,none⟩=some (.slice oc n1 cc):=by rw [←hW1];simp [go_sem]
 have b3:W1.cell? ⟨w.heap.size+1,3,none⟩=some (.slice ox n3 cx):=by rw [←hW1];simp [go_sem]
 have a4:W1.cell? ⟨w.heap.size,4,none⟩=some (.slice ot n2 ct):=by rw [←hW1];simp [go_sem]
 have b4:W1.cell? ⟨w.heap.size+1,4,none⟩=some (.slice ou n4 cu):=by rw [←hW1];simp [go_sem]
 have H1:=Q00 ((h1.kept hb (Kaq _)).le hb.size)
 have H2:=Q00 ((h2.kept hb (Kaq _)).le hb.size)
 have HB:=Q00 hb
 have HF:=Q00 hf
 clear h1 h2 hb hf
 go_enter Try.func13,Try.ntmps13
 go_wp2_with fail
 refine (Q2I (tab (.slice oc n1 cc)) (tab (.slice ox n3 cx)) m.c W1 (Q3k H1.out).1 (Q3k H2.out).1 (Kdq (Nat.le_add_right _ _) HF.out)).mono ?_
 rintro e x1 ⟨rfl,hb⟩
 replace a0:=(hb.cell (p:=⟨w.heap.size,0,none⟩) za).trans a0
 replace a1:=(hb.cell (p:=⟨w.heap.size,1,none⟩) za).trans a1
 replace a2:=(hb.cell (p:=⟨w.heap.size,2,none⟩) za).trans a2
 replace a3:=(hb.cell (p:=⟨w.heap.size,3,none⟩) za).trans a3
 replace a4:=(hb.cell (p:=⟨w.heap.size,4,none⟩) za).trans a4
 replace b0:=(hb.cell (p:=⟨w.heap.size+1,0,none⟩) zb).trans b0
 replace b1:=(hb.cell (p:=⟨w.heap.size+1,1,none⟩) zb).trans b1
 replace b2:=(hb.cell (p:=⟨w.heap.size+1,2,none⟩) zb).trans b2
 replace b3:=(hb.cell (p:=⟨w.heap.size+1,3,none⟩) zb).trans b3
 replace b4:=(hb.cell (p:=⟨w.heap.size+1,4,none⟩) zb).trans b4
 replace H1:=Q00 ((H1.out.kept hb (Kaq _)).le hb.size)
 replace H2:=Q00 ((H2.out.kept hb (Kaq _)).le hb.size)
 replace HB:=Q00 (HB.out.trans (hb.mono HB.out.size))
 clear hb hW1
 go_wp2_with fail
 refine (Q2I (tab (.slice ot n2 ct)) (tab (.slice ou n4 cu)) m.t x1 (Q3k H1.out).2 (Q3k H2.out).2 (Kdq (Nat.le_add_left _ _) HF.out)).mono ?_
 rintro e x2 ⟨rfl,hb⟩
 replace HB:=Q00 (HB.out.trans (hb.mono HB.out.size))
 clear hb
 go_wp2
 go_ret
 exact ⟨rfl,HB.out⟩
theorem Q5X (o:Option Addr) (cap:Nat) (l:List Int) (w:World) (hm:l.length≤maxLen) (hR:Rd w o l) (hB8:isB l):
  Calls Try.prog 3 #[.slice o l.length cap] w fun e w'=> e=.returned (.bool true)∧Below w.heap.size w w':=by
 have hD:=Q40 o cap l w hR hB8 hm
 go_enter Try.func3,Try.ntmps3
 go_wp2_with fail
 refine hD.mono ?_
 rintro e v0 ⟨m,oc,cc,ot,ct,now,a,b,f,s,ol,ln,cl,og,cg,g,pl,st,rfl,hln,hra,hrg,hl2,hg8,hb1⟩
 have HF:Hid (m.c.length+m.t.length≤1048576):=Q00 (by omega)
 have HL2:Hid (ln≤maxLen):=Q00 (Kdq hl2 (by unfold maxLen;decide))
 have HG8:Hid (g.length≤maxLen):=Q00 (Kdq hg8 (by unfold maxLen;decide))
 obtain ⟨n1,hn1⟩:∃n,m.c.length=n:=⟨_,rfl⟩
 obtain ⟨n2,hn2⟩:∃n,m.t.length=n:=⟨_,rfl⟩
 obtain ⟨gn,hgn⟩:∃n,g.length=n:=⟨_,rfl⟩
 rw [hn1,hn2] at hra
 simp only [hn1,hn2,hgn]
 have HN:=Q00 (And.intro hn1 hn2)
 have HGN:=Q00 hgn
 have HB:=Q00 hb1
 have HRa:=Q00 hra
 have HG:=Q00 hrg
 clear hD hR hB8 hm hln hra hrg hl2 hg8 hb1 hn1 hn2
 obtain ⟨W1,hW1⟩:∃W,((v0.alloc (.cells #[.int .i64 m.id,.int .i64 m.lim,.bool m.dr,.slice oc n1 cc,.slice ot n2 ct] 27)).alloc (.cells #[.int .i64 a,.int .i64 b,.int .i64 f,.int .i64 s,.slice ol ln cl,.slice og gn cg,.int .i64 pl,.int .i64 st] 34))=W:=⟨_,rfl⟩
 have hb_:Below v0.heap.size v0 W1:=by rw [←hW1];exact ((Below.refl _ _).alloc (Kaq _) _).alloc (by simp) _
 replace HB:=Q00 (HB.out.trans (hb_.mono HB.out.size))
 replace HRa:Hid (RdA W1.heap.size W1 (agt m.id m.lim m.dr (.slice oc n1 cc) (.slice ot n2 ct)) m):=Q00 ((HRa.out.kept hb_ (Kaq _)).le hb_.size)
 replace HG:=Q00 (HG.out.kept hb_)
 have za:v0.heap.size < W1.heap.size:=by rw [←hW1];simp <;> omega
 have a0:W1.cell? ⟨v0.heap.size,0,none⟩=some (.int .i64 m.id):=by rw [←hW1];simp [go_sem]
 have a1:W1.cell? ⟨v0.heap.size,1,none⟩=some (.int .i64 m.lim):=by rw [←hW1];simp [go_sem]
 have a2:W1.cell? ⟨v0.heap.size,2,none⟩=some (.bool m.dr):=by rw [←hW1];simp [go_sem]
 have a3:W1.cell? ⟨v0.heap.size,3,none⟩=some (.slice oc n1 cc):=by rw [←hW1];simp [go_sem]
 have a4:W1.cell? ⟨v0.heap.size,4,none⟩=some (.slice ot n2 ct):=by rw [←hW1];simp [go_sem]
 have zc:v0.heap.size+1 < W1.heap.size:=by rw [←hW1];simp <;> omega
 have c0:W1.cell? ⟨v0.heap.size+1,0,none⟩=some (.int .i64 a):=by rw [←hW1];simp [go_sem]
 have c1:W1.cell? ⟨v0.heap.size+1,1,none⟩=some (.int .i64 b):=by rw [←hW1];simp [go_sem]
 have c2:W1.cell? ⟨v0.heap.size+1,2,none⟩=some (.int .i64 f):=by rw [←hW1];simp [go_sem]
 have c3:W1.cell? ⟨v0.heap.size+1,3,none⟩=some (.int .i64 s):=by rw [←hW1];simp [go_sem]
 have c4:W1.cell? ⟨v0.heap.size+1,4,none⟩=some (.slice ol ln cl):=by rw [←hW1];simp [go_sem]
 have c5:W1.cell? ⟨v0.heap.size+1,5,none⟩=some (.slice og gn cg):=by rw [←hW1];simp [go_sem]
 have c6:W1.cell? ⟨v0.heap.size+1,6,none⟩=some (.int .i64 pl):=by rw [←hW1];simp [go_sem]
 have c7:W1.cell? ⟨v0.heap.size+1,7,none⟩=some (.int .i64 st):=by rw [←hW1];simp [go_sem]
 have hH:=Q1H (agt m.id m.lim m.dr (.slice oc n1 cc) (.slice ot n2 ct)) m now a b f s ol og ln cl cg g pl st W1 HRa.out HF.out HL2.out HG8.out HG.out
 obtain ⟨M,hM⟩:∃q,Q5W m now a b f s ln g pl st=q:=⟨_,rfl⟩
 obtain ⟨vd,hv⟩:∃q,Q7Y m now a b f s ln g pl st=q:=⟨_,rfl⟩
 have HFM:Hid (M.c.length+M.t.length≤1048576):=Q00 (hM ▸ Q7u now a b f s ln g pl st HF.out)
 rw [hM,hv,hgn] at hH
 have HH:=Q00 hH
 have HM:=Q00 hM
 have HV:=Q00 hv
 clear hH hM hv hb_ hgn
 go_wp2_with fail
 refine HH.out.mono ?_
 rintro e v1 ⟨vx,rfl,hi,hb⟩
 clear hW1 HH
 replace a0:=(hb.cell (p:=⟨v0.heap.size,0,none⟩) za).trans a0
 replace a1:=(hb.cell (p:=⟨v0.heap.size,1,none⟩) za).trans a1
 replace a2:=(hb.cell (p:=⟨v0.heap.size,2,none⟩) za).trans a2
 replace a3:=(hb.cell (p:=⟨v0.heap.size,3,none⟩) za).trans a3
 replace a4:=(hb.cell (p:=⟨v0.heap.size,4,none⟩) za).trans a4
 replace za:v0.heap.size < v1.heap.size:=Kbq za hb.size
 replace c0:=(hb.cell (p:=⟨v0.heap.size+1,0,none⟩) zc).trans c0
 replace c1:=(hb.cell (p:=⟨v0.heap.size+1,1,none⟩) zc).trans c1
 replace c2:=(hb.cell (p:=⟨v0.heap.size+1,2,none⟩) zc).trans c2
 replace c3:=(hb.cell (p:=⟨v0.heap.size+1,3,none⟩) zc).trans c3
 replace c4:=(hb.cell (p:=⟨v0.heap.size+1,4,none⟩) zc).trans c4
 replace c5:=(hb.cell (p:=⟨v0.heap.size+1,5,none⟩) zc).trans c5
 replace c6:=(hb.cell (p:=⟨v0.heap.size+1,6,none⟩) zc).trans c6
 replace c7:=(hb.cell (p:=⟨v0.heap.size+1,7,none⟩) zc).trans c7
 replace zc:v0.heap.size+1 < v1.heap.size:=Kbq zc hb.size
 replace HB:=Q00 (HB.out.trans (hb.mono HB.out.size))
 replace HRa:Hid (RdA v1.heap.size v1 (agt m.id m.lim m.dr (.slice oc n1 cc) (.slice ot n2 ct)) m):=Q00 ((HRa.out.kept hb (Kaq _)).le hb.size)
 replace HG:=Q00 (HG.out.kept hb)
 have hr0:=hi.rd
 obtain ⟨_,_,rfl,⟨ox,cx,rfl,g1_⟩,⟨ou,cu,rfl,g2_⟩⟩:=hr0
 clear g1_ g2_
 have hr:=hi.rd
 obtain ⟨nx1,hnx1⟩:∃n,M.c.length=n:=⟨_,rfl⟩
 obtain ⟨nx2,hnx2⟩:∃n,M.t.length=n:=⟨_,rfl⟩
 rw [hnx1,hnx2] at hr
 simp only [hnx1,hnx2]
 have HRx:=Q00 hr
 have HNx:=Q00 (And.intro hnx1 hnx2)
 clear hi hr hnx1 hnx2 hb
 obtain ⟨W2,hW2⟩:∃W,(v1.alloc (.cells #[.int .i64 M.id,.int .i64 M.lim,.bool M.dr,.slice ox nx1 cx,.slice ou nx2 cu] 27))=W:=⟨_,rfl⟩
 have hb_W2:Below v1.heap.size v1 W2:=by rw [←hW2];exact (Below.refl _ _).alloc (Kaq _) _
 replace a0:=(hb_W2.cell (p:=⟨v0.heap.size,0,none⟩) za).trans a0
 replace a1:=(hb_W2.cell (p:=⟨v0.heap.size,1,none⟩) za).trans a1
 replace a2:=(hb_W2.cell (p:=⟨v0.heap.size,2,none⟩) za).trans a2
 replace a3:=(hb_W2.cell (p:=⟨v0.heap.size,3,none⟩) za).trans a3
 replace a4:=(hb_W2.cell (p:=⟨v0.heap.size,4,none⟩) za).trans a4
 replace za:v0.heap.size < W2.heap.size:=Kbq za hb_W2.size
 replace c0:=(hb_W2.cell (p:=⟨v0.heap.size+1,0,none⟩) zc).trans c0
 replace c1:=(hb_W2.cell (p:=⟨v0.heap.size+1,1,none⟩) zc).trans c1
 replace c2:=(hb_W2.cell (p:=⟨v0.heap.size+1,2,none⟩) zc).trans c2
 replace c3:=(hb_W2.cell (p:=⟨v0.heap.size+1,3,none⟩) zc).trans c3
 replace c4:=(hb_W2.cell (p:=⟨v0.heap.size+1,4,none⟩) zc).trans c4
 replace c5:=(hb_W2.cell (p:=⟨v0.heap.size+1,5,none⟩) zc).trans c5
 replace c6:=(hb_W2.cell (p:=⟨v0.heap.size+1,6,none⟩) zc).trans c6
 replace c7:=(hb_W2.cell (p:=⟨v0.heap.size+1,7,none⟩) zc).trans c7
 replace zc:v0.heap.size+1 < W2.heap.size:=Kbq zc hb_W2.size
 replace HB:=Q00 (HB.out.trans (hb_W2.mono HB.out.size))
 replace HRa:Hid (RdA W2.heap.size W2 (agt m.id m.lim m.dr (.slice oc n1 cc) (.slice ot n2 ct)) m):=Q00 ((HRa.out.kept hb_W2 (Kaq _)).le hb_W2.size)
 replace HG:=Q00 (HG.out.kept hb_W2)
 replace HRx:Hid (RdA W2.heap.size W2 (agt M.id M.lim M.dr (.slice ox nx1 cx) (.slice ou nx2 cu)) M):=Q00 ((HRx.out.kept hb_W2 (Kaq _)).le hb_W2.size)
 have zx:v1.heap.size < W2.heap.size:=by rw [←hW2];simp
 have x0:W2.cell? ⟨v1.heap.size,0,none⟩=some (.int .i64 M.id):=by rw [←hW2];simp [go_sem]
 have x1:W2.cell? ⟨v1.heap.size,1,none⟩=some (.int .i64 M.lim):=by rw [←hW2];simp [go_sem]
 have x2:W2.cell? ⟨v1.heap.size,2,none⟩=some (.bool M.dr):=by rw [←hW2];simp [go_sem]
 have x3:W2.cell? ⟨v1.heap.size,3,none⟩=some (.slice ox nx1 cx):=by rw [←hW2];simp [go_sem]
 have x4:W2.cell? ⟨v1.heap.size,4,none⟩=some (.slice ou nx2 cu):=by rw [←hW2];simp [go_sem]
 clear hb_W2
 cases hB:Q4F m now a b f s ln g pl st with
 |false=>
  have hno:=Q82 hB
  have ev:vd= -1:=HV.out.symm.trans hno.2
  have en:nx1=0:=by rw [←HNx.out.1,←HM.out,hno.1];rfl
  clear hno HM HV HNx HFM hB
  subst ev
  subst en
  go_wp2_with fail
  refine (Q0T W2).mono ?_
  rintro e v10 ⟨rfl,hb⟩
  replace a0:=(hb.cell (p:=⟨v0.heap.size,0,none⟩) za).trans a0
  replace a1:=(hb.cell (p:=⟨v0.heap.size,1,none⟩) za).trans a1
  replace a2:=(hb.cell (p:=⟨v0.heap.size,2,none⟩) za).trans a2
  replace a3:=(hb.cell (p:=⟨v0.heap.size,3,none⟩) za).trans a3
  replace a4:=(hb.cell (p:=⟨v0.heap.size,4,none⟩) za).trans a4
  replace za:v0.heap.size < v10.heap.size:=Kbq za hb.size
  replace HB:=Q00 (HB.out.trans (hb.mono HB.out.size))
  replace HRa:Hid (RdA v10.heap.size v10 (agt m.id m.lim m.dr (.slice oc n1 cc) (.slice ot n2 ct)) m):=Q00 ((HRa.out.kept hb (Kaq _)).le hb.size)
  clear hb
  go_wp2
  go_ret
  exact ⟨rfl,HB.out⟩
 |true=>
  obtain ⟨⟨sb,sf⟩,hs⟩:∃x,g.getD pl.toNat (0,0)=x:=⟨_,rfl⟩
  obtain ⟨hok,⟨hp0,hp1,hg24,hst0,hst1,hnow⟩,hcase⟩:=Q7A hB HM.out HV.out hs
  rw [HGN.out] at hp1 hg24 hcase
  obtain ⟨q,hq⟩:∃q:Nat,pl=q:=⟨pl.toNat,by omega⟩
  subst hq
  have hqn:q < gn:=by omega
  have hv0:0≤vd:=by omega
  have HCS:=Q00 hcase
  rw [Int.toNat_natCast] at hs
  obtain ⟨bg,off,rfl,zg,g0,g1⟩:∃bg off,og=some ⟨bg,off,none⟩∧bg < W2.heap.size∧W2.cell? ⟨bg,off+q * 2,none⟩=some (.int .i64 sb)∧W2.cell? ⟨bg,off+q * 2+1,none⟩=some (.int .i64 sf):=by
   rcases HG.out with h|⟨bg,off,ho,hb,hc⟩
   ·have:=HGN.out;rw [h] at this;simp at this;omega
   ·have hc:=hc q (by rw [HGN.out];exact hqn)
    rw [hs] at hc
    exact ⟨bg,off,ho,hb,hc.1,hc.2⟩
  have HSp:=Q00 (fun W h=> Q4H (agt m.id m.lim m.dr (.slice oc n1 cc) (.slice ot n2 ct)) m a b W h HF.out)
  have HIH:=Q00 (fun W h=> Q36 (agt M.id M.lim M.dr (.slice ox nx1 cx) (.slice ou nx2 cu)) M a b W h HFM.out)
  have HIS:=Q00 (fun W h=> Q4M (agt M.id M.lim M.dr (.slice ox nx1 cx) (.slice ou nx2 cu)) M a b W h HFM.out)
  have HIK:=Q00 (fun W h=> Q2w (agt M.id M.lim M.dr (.slice ox nx1 cx) (.slice ou nx2 cu)) M W h HFM.out)
  have HIO:=Q00 (fun W=> Q1T a b f s ol ln cl W HL2.out)
  rw [hok] at HIK
  obtain ⟨hd,hhd⟩:∃z,Q14 m a b=z:=⟨_,rfl⟩
  rw [hhd] at HSp
  obtain ⟨hx,hhx⟩:∃z,Q14 M a b=z:=⟨_,rfl⟩
  rw [hhx] at HIH
  obtain ⟨sx,hsx⟩:∃z,Q4n M a b=z:=⟨_,rfl⟩
  rw [hsx] at HIS
  obtain ⟨op,hop⟩:∃z,Q12 a b f s ln=z:=⟨_,rfl⟩
  rw [hop] at HIO
  rw [hhd,hhx,hsx,hop] at HCS
  clear hcase hhd hhx hsx hop hB HM HV HG HGN hs hok hp0 HL2 HG8
  have c5_:=c5
  have c6_:=c6
  obtain ⟨W3,hW3⟩:∃W,(W2.alloc (.cells #[.int .i64 sb,.int .i64 sf] 41))=W:=⟨_,rfl⟩
  have hb_W3:Below W2.heap.size W2 W3:=by rw [←hW3];exact (Below.refl _ _).alloc (Kaq _) _
  replace a0:=(hb_W3.cell (p:=⟨v0.heap.size,0,none⟩) za).trans a0
  replace a1:=(hb_W3.cell (p:=⟨v0.heap.size,1,none⟩) za).trans a1
  replace a2:=(hb_W3.cell (p:=⟨v0.heap.size,2,none⟩) za).trans a2
  replace a3:=(hb_W3.cell (p:=⟨v0.heap.size,3,none⟩) za).trans a3
  replace a4:=(hb_W3.cell (p:=⟨v0.heap.size,4,none⟩) za).trans a4
  replace za:v0.heap.size < W3.heap.size:=Kbq za hb_W3.size
  replace c0:=(hb_W3.cell (p:=⟨v0.heap.size+1,0,none⟩) zc).trans c0
  replace c1:=(hb_W3.cell (p:=⟨v0.heap.size+1,1,none⟩) zc).trans c1
  replace c2:=(hb_W3.cell (p:=⟨v0.heap.size+1,2,none⟩) zc).trans c2
  replace c3:=(hb_W3.cell (p:=⟨v0.heap.size+1,3,none⟩) zc).trans c3
  replace c4:=(hb_W3.cell (p:=⟨v0.heap.size+1,4,none⟩) zc).trans c4
  replace c5:=(hb_W3.cell (p:=⟨v0.heap.size+1,5,none⟩) zc).trans c5
  replace c6:=(hb_W3.cell (p:=⟨v0.heap.size+1,6,none⟩) zc).trans c6
  replace c7:=(hb_W3.cell (p:=⟨v0.heap.size+1,7,none⟩) zc).trans c7
  replace zc:v0.heap.size+1 < W3.heap.size:=Kbq zc hb_W3.size
  replace x0:=(hb_W3.cell (p:=⟨v1.heap.size,0,none⟩) zx).trans x0
  replace x1:=(hb_W3.cell (p:=⟨v1.heap.size,1,none⟩) zx).trans x1
  replace x2:=(hb_W3.cell (p:=⟨v1.heap.size,2,none⟩) zx).trans x2
  replace x3:=(hb_W3.cell (p:=⟨v1.heap.size,3,none⟩) zx).trans x3
  replace x4:=(hb_W3.cell (p:=⟨v1.heap.size,4,none⟩) zx).trans x4
  replace zx:v1.heap.size < W3.heap.size:=Kbq zx hb_W3.size
  replace HB:=Q00 (HB.out.trans (hb_W3.mono HB.out.size))
  replace HRa:Hid (RdA W3.heap.size W3 (agt m.id m.lim m.dr (.slice oc n1 cc) (.slice ot n2 ct)) m):=Q00 ((HRa.out.kept hb_W3 (Kaq _)).le hb_W3.size)
  replace HRx:Hid (RdA W3.heap.size W3 (agt M.id M.lim M.dr (.slice ox nx1 cx) (.slice ou nx2 cu)) M):=Q00 ((HRx.out.kept hb_W3 (Kaq _)).le hb_W3.size)
  replace zg:bg < W3.heap.size:=Kbq zg hb_W3.size
  have zs:W2.heap.size < W3.heap.size:=by rw [←hW3];simp
  have s0:W3.cell? ⟨W2.heap.size,0,none⟩=some (.int .i64 sb):=by rw [←hW3];simp [go_sem]
  have s1:W3.cell? ⟨W2.heap.size,1,none⟩=some (.int .i64 sf):=by rw [←hW3];simp [go_sem]
  clear hb_W3
  have c0_:=c0
  have c1_:=c1
  obtain ⟨W4,hW4⟩:∃W,(W3.alloc (.cells #[.int .i64 a,.int .i64 b] 29))=W:=⟨_,rfl⟩
  have hb_W4:Below W3.heap.size W3 W4:=by rw [←hW4];exact (Below.refl _ _).alloc (Kaq _) _
  replace a0:=(hb_W4.cell (p:=⟨v0.heap.size,0,none⟩) za).trans a0
  replace a1:=(hb_W4.cell (p:=⟨v0.heap.size,1,none⟩) za).trans a1
  replace a2:=(hb_W4.cell (p:=⟨v0.heap.size,2,none⟩) za).trans a2
  replace a3:=(hb_W4.cell (p:=⟨v0.heap.size,3,none⟩) za).trans a3
  replace a4:=(hb_W4.cell (p:=⟨v0.heap.size,4,none⟩) za).trans a4
  replace za:v0.heap.size < W4.heap.size:=Kbq za hb_W4.size
  replace c0:=(hb_W4.cell (p:=⟨v0.heap.size+1,0,none⟩) zc).trans c0
  replace c1:=(hb_W4.cell (p:=⟨v0.heap.size+1,1,none⟩) zc).trans c1
  replace c2:=(hb_W4.cell (p:=⟨v0.heap.size+1,2,none⟩) zc).trans c2
  replace c3:=(hb_W4.cell (p:=⟨v0.heap.size+1,3,none⟩) zc).trans c3
  replace c4:=(hb_W4.cell (p:=⟨v0.heap.size+1,4,none⟩) zc).trans c4
  replace c5:=(hb_W4.cell (p:=⟨v0.heap.size+1,5,none⟩) zc).trans c5
  replace c6:=(hb_W4.cell (p:=⟨v0.heap.size+1,6,none⟩) zc).trans c6
  replace c7:=(hb_W4.cell (p:=⟨v0.heap.size+1,7,none⟩) zc).trans c7
  replace zc:v0.heap.size+1 < W4.heap.size:=Kbq zc hb_W4.size
  replace x0:=(hb_W4.cell (p:=⟨v1.heap.size,0,none⟩) zx).trans x0
  replace x1:=(hb_W4.cell (p:=⟨v1.heap.size,1,none⟩) zx).trans x1
  replace x2:=(hb_W4.cell (p:=⟨v1.heap.size,2,none⟩) zx).trans x2
  replace x3:=(hb_W4.cell (p:=⟨v1.heap.size,3,none⟩) zx).trans x3
  replace x4:=(hb_W4.cell (p:=⟨v1.heap.size,4,none⟩) zx).trans x4
  replace zx:v1.heap.size < W4.heap.size:=Kbq zx hb_W4.size
  replace s0:=(hb_W4.cell (p:=⟨W2.heap.size,0,none⟩) zs).trans s0
  replace s1:=(hb_W4.cell (p:=⟨W2.heap.size,1,none⟩) zs).trans s1
  replace zs:W2.heap.size < W4.heap.size:=Kbq zs hb_W4.size
  replace HB:=Q00 (HB.out.trans (hb_W4.mono HB.out.size))
  replace HRa:Hid (RdA W4.heap.size W4 (agt m.id m.lim m.dr (.slice oc n1 cc) (.slice ot n2 ct)) m):=Q00 ((HRa.out.kept hb_W4 (Kaq _)).le hb_W4.size)
  replace HRx:Hid (RdA W4.heap.size W4 (agt M.id M.lim M.dr (.slice ox nx1 cx) (.slice ou nx2 cu)) M):=Q00 ((HRx.out.kept hb_W4 (Kaq _)).le hb_W4.size)
  have zy:W3.heap.size < W4.heap.size:=by rw [←hW4];simp
  have y0:W4.cell? ⟨W3.heap.size,0,none⟩=some (.int .i64 a):=by rw [←hW4];simp [go_sem]
  have y1:W4.cell? ⟨W3.heap.size,1,none⟩=some (.int .i64 b):=by rw [←hW4];simp [go_sem]
  clear hb_W4
  go_wp2_with fail
  refine (HSp.out W4 HRa.out).mono ?_
  rintro e v11 ⟨rfl,hb⟩
  replace a0:=(hb.cell (p:=⟨v0.heap.size,0,none⟩) za).trans a0
  replace a1:=(hb.cell (p:=⟨v0.heap.size,1,none⟩) za).trans a1
  replace a2:=(hb.cell (p:=⟨v0.heap.size,2,none⟩) za).trans a2
  replace a3:=(hb.cell (p:=⟨v0.heap.size,3,none⟩) za).trans a3
  replace a4:=(hb.cell (p:=⟨v0.heap.size,4,none⟩) za).trans a4
  replace za:v0.heap.size < v11.heap.size:=Kbq za hb.size
  replace c0:=(hb.cell (p:=⟨v0.heap.size+1,0,none⟩) zc).trans c0
  replace c1:=(hb.cell (p:=⟨v0.heap.size+1,1,none⟩) zc).trans c1
  replace c2:=(hb.cell (p:=⟨v0.heap.size+1,2,none⟩) zc).trans c2
  replace c3:=(hb.cell (p:=⟨v0.heap.size+1,3,none⟩) zc).trans c3
  replace c4:=(hb.cell (p:=⟨v0.heap.size+1,4,none⟩) zc).trans c4
  replace c5:=(hb.cell (p:=⟨v0.heap.size+1,5,none⟩) zc).trans c5
  replace c6:=(hb.cell (p:=⟨v0.heap.size+1,6,none⟩) zc).trans c6
  replace c7:=(hb.cell (p:=⟨v0.heap.size+1,7,none⟩) zc).trans c7
  replace zc:v0.heap.size+1 < v11.heap.size:=Kbq zc hb.size
  replace x0:=(hb.cell (p:=⟨v1.heap.size,0,none⟩) zx).trans x0
  replace x1:=(hb.cell (p:=⟨v1.heap.size,1,none⟩) zx).trans x1
  replace x2:=(hb.cell (p:=⟨v1.heap.size,2,none⟩) zx).trans x2
  replace x3:=(hb.cell (p:=⟨v1.heap.size,3,none⟩) zx).trans x3
  replace x4:=(hb.cell (p:=⟨v1.heap.size,4,none⟩) zx).trans x4
  replace zx:v1.heap.size < v11.heap.size:=Kbq zx hb.size
  replace s0:=(hb.cell (p:=⟨W2.heap.size,0,none⟩) zs).trans s0
  replace s1:=(hb.cell (p:=⟨W2.heap.size,1,none⟩) zs).trans s1
  replace zs:W2.heap.size < v11.heap.size:=Kbq zs hb.size
  replace y0:=(hb.cell (p:=⟨W3.heap.size,0,none⟩) zy).trans y0
  replace y1:=(hb.cell (p:=⟨W3.heap.size,1,none⟩) zy).trans y1
  replace zy:W3.heap.size < v11.heap.size:=Kbq zy hb.size
  replace HB:=Q00 (HB.out.trans (hb.mono HB.out.size))
  replace HRa:Hid (RdA v11.heap.size v11 (agt m.id m.lim m.dr (.slice oc n1 cc) (.slice ot n2 ct)) m):=Q00 ((HRa.out.kept hb (Kaq _)).le hb.size)
  replace HRx:Hid (RdA v11.heap.size v11 (agt M.id M.lim M.dr (.slice ox nx1 cx) (.slice ou nx2 cu)) M):=Q00 ((HRx.out.kept hb (Kaq _)).le hb.size)
  clear hb
  clear hW2 hW3 hW4 g0 g1 zg HSp c5_ c6_ c0_ c1_
  go_wp2_with fail
  refine (HIK.out v11 HRx.out).mono ?_
  rintro e v12 ⟨rfl,hb⟩
  replace a0:=(hb.cell (p:=⟨v0.heap.size,0,none⟩) za).trans a0
  replace a1:=(hb.cell (p:=⟨v0.heap.size,1,none⟩) za).trans a1
  replace a2:=(hb.cell (p:=⟨v0.heap.size,2,none⟩) za).trans a2
  replace a3:=(hb.cell (p:=⟨v0.heap.size,3,none⟩) za).trans a3
  replace a4:=(hb.cell (p:=⟨v0.heap.size,4,none⟩) za).trans a4
  replace za:v0.heap.size < v12.heap.size:=Kbq za hb.size
  replace c0:=(hb.cell (p:=⟨v0.heap.size+1,0,none⟩) zc).trans c0
  replace c1:=(hb.cell (p:=⟨v0.heap.size+1,1,none⟩) zc).trans c1
  replace c2:=(hb.cell (p:=⟨v0.heap.size+1,2,none⟩) zc).trans c2
  replace c3:=(hb.cell (p:=⟨v0.heap.size+1,3,none⟩) zc).trans c3
  replace c4:=(hb.cell (p:=⟨v0.heap.size+1,4,none⟩) zc).trans c4
  replace c5:=(hb.cell (p:=⟨v0.heap.size+1,5,none⟩) zc).trans c5
  replace c6:=(hb.cell (p:=⟨v0.heap.size+1,6,none⟩) zc).trans c6
  replace c7:=(hb.cell (p:=⟨v0.heap.size+1,7,none⟩) zc).trans c7
  replace zc:v0.heap.size+1 < v12.heap.size:=Kbq zc hb.size
  replace x0:=(hb.cell (p:=⟨v1.heap.size,0,none⟩) zx).trans x0
  replace x1:=(hb.cell (p:=⟨v1.heap.size,1,none⟩) zx).trans x1
  replace x2:=(hb.cell (p:=⟨v1.heap.size,2,none⟩) zx).trans x2
  replace x3:=(hb.cell (p:=⟨v1.heap.size,3,none⟩) zx).trans x3
  replace x4:=(hb.cell (p:=⟨v1.heap.size,4,none⟩) zx).trans x4
  replace zx:v1.heap.size < v12.heap.size:=Kbq zx hb.size
  replace s0:=(hb.cell (p:=⟨W2.heap.size,0,none⟩) zs).trans s0
  replace s1:=(hb.cell (p:=⟨W2.heap.size,1,none⟩) zs).trans s1
  replace zs:W2.heap.size < v12.heap.size:=Kbq zs hb.size
  replace y0:=(hb.cell (p:=⟨W3.heap.size,0,none⟩) zy).trans y0
  replace y1:=(hb.cell (p:=⟨W3.heap.size,1,none⟩) zy).trans y1
  replace zy:W3.heap.size < v12.heap.size:=Kbq zy hb.size
  replace HB:=Q00 (HB.out.trans (hb.mono HB.out.size))
  replace HRa:Hid (RdA v12.heap.size v12 (agt m.id m.lim m.dr (.slice oc n1 cc) (.slice ot n2 ct)) m):=Q00 ((HRa.out.kept hb (Kaq _)).le hb.size)
  replace HRx:Hid (RdA v12.heap.size v12 (agt M.id M.lim M.dr (.slice ox nx1 cx) (.slice ou nx2 cu)) M):=Q00 ((HRx.out.kept hb (Kaq _)).le hb.size)
  clear hb
  clear HIK
  rcases HCS.out with ⟨rfl,hsb,hMm⟩|⟨rfl,rfl,rfl,hxx⟩|⟨rfl,rfl,rfl,rfl,rfl,rfl,hdr⟩|⟨rfl,rfl,rfl,rfl,hlt,hfn⟩|⟨rfl,rfl,rfl,hle,hMm⟩|⟨rfl,rfl,rfl,hlate,hMm⟩|⟨rfl,rfl,hMm⟩
  ·replace hMm:=hMm.symm
   subst hMm
   have hb1:(sb !=m.id)=true:=by simp [hsb]
   have hb2:(sb==m.id)=false:=by simp [hsb]
   clear HCS HIH HIS HIO
   go_wp2_with fail
   refine (Q1l (oc:=oc) (ot:=ot) (ox:=ox) (ou:=ou) (cc:=cc) (ct:=ct) (cx:=cx) (cu:=cu) v12 HRa.out HRx.out HF.out).mono ?_
   rintro e v13 ⟨rfl,hb⟩
   replace a0:=(hb.cell (p:=⟨v0.heap.size,0,none⟩) za).trans a0
   replace a1:=(hb.cell (p:=⟨v0.heap.size,1,none⟩) za).trans a1
   replace a2:=(hb.cell (p:=⟨v0.heap.size,2,none⟩) za).trans a2
   replace a3:=(hb.cell (p:=⟨v0.heap.size,3,none⟩) za).trans a3
   replace a4:=(hb.cell (p:=⟨v0.heap.size,4,none⟩) za).trans a4
   replace za:v0.heap.size < v13.heap.size:=Kbq za hb.size
   replace x0:=(hb.cell (p:=⟨v1.heap.size,0,none⟩) zx).trans x0
   replace x1:=(hb.cell (p:=⟨v1.heap.size,1,none⟩) zx).trans x1
   replace x2:=(hb.cell (p:=⟨v1.heap.size,2,none⟩) zx).trans x2
   replace x3:=(hb.cell (p:=⟨v1.heap.size,3,none⟩) zx).trans x3
   replace x4:=(hb.cell (p:=⟨v1.heap.size,4,none⟩) zx).trans x4
   replace zx:v1.heap.size < v13.heap.size:=Kbq zx hb.size
   replace HB:=Q00 (HB.out.trans (hb.mono HB.out.size))
   replace HRa:=Q00 ((HRa.out.kept hb (Kaq _)).le hb.size)
   replace HRx:=Q00 ((HRx.out.kept hb (Kaq _)).le hb.size)
   clear hb
   go_wp2_with fail
   refine (Q0T v13).mono ?_
   rintro e v14 ⟨rfl,hb⟩
   replace a0:=(hb.cell (p:=⟨v0.heap.size,0,none⟩) za).trans a0
   replace a1:=(hb.cell (p:=⟨v0.heap.size,1,none⟩) za).trans a1
   replace a2:=(hb.cell (p:=⟨v0.heap.size,2,none⟩) za).trans a2
   replace a3:=(hb.cell (p:=⟨v0.heap.size,3,none⟩) za).trans a3
   replace a4:=(hb.cell (p:=⟨v0.heap.size,4,none⟩) za).trans a4
   replace za:v0.heap.size < v14.heap.size:=Kbq za hb.size
   replace HB:=Q00 (HB.out.trans (hb.mono HB.out.size))
   replace HRa:=Q00 ((HRa.out.kept hb (Kaq _)).le hb.size)
   replace HRx:=Q00 ((HRx.out.kept hb (Kaq _)).le hb.size)
   clear hb
   go_wp2
   go_ret
   exact ⟨rfl,HB.out⟩
  ·clear HCS HIS HIO
   by_cases hz:bits .and .i64 f 12=0
   ·have hxt:hx=true:=hxx.trans (decide_eq_true hz)
    clear hxx
    subst hxt
    have HIG:=Q00 (fun p:Grown v12=> HIH.out p.v ((HRx.out.kept p.b (Kaq _)).le p.b.size))
    have Gx0:=Grown.cell x0 zx
    have Gx1:=Grown.cell x1 zx
    have Gx2:=Grown.cell x2 zx
    have Gx3:=Grown.cell x3 zx
    have Gx4:=Grown.cell x4 zx
    have Gy0:=Grown.cell y0 zy
    have Gy1:=Grown.cell y1 zy
    have Gc2:=Grown.cell c2 zc
    go_wp2
    (refine Q05 (by kernel_rfl) (by kernel_rfl) ?_;intro hne9;(repeat (go_big_quiet_step (first|(go_at_call 10;exact Q09 _ (HIG.out _))|(go_at_call 7;exact Q09 _ (Q0T _)))));(with_reducible refine wpQuiet_nil ?_);intro _ hw9;obtain ⟨pq,hw8⟩:=hw9;subst hw8)
    have HBg:=Q00 (HB.out.trans (pq.b.mono HB.out.size))
    clear Gx0 Gx1 Gx2 Gx3 Gx4 Gy0 Gy1 Gc2
    go_wp2
    go_ret
    exact ⟨rfl,HBg.out⟩
   ·have hxt:hx=false:=hxx.trans (decide_eq_false hz)
    clear hxx
    subst hxt
    have hz2:(bits .and .i64 f 12==0)=false:=by simp [hz]
    have HIG:=Q00 (fun p:Grown v12=> HIH.out p.v ((HRx.out.kept p.b (Kaq _)).le p.b.size))
    have Gx0:=Grown.cell x0 zx
    have Gx1:=Grown.cell x1 zx
    have Gx2:=Grown.cell x2 zx
    have Gx3:=Grown.cell x3 zx
    have Gx4:=Grown.cell x4 zx
    have Gy0:=Grown.cell y0 zy
    have Gy1:=Grown.cell y1 zy
    have Gc2:=Grown.cell c2 zc
    go_wp2
    (refine Q05 (by kernel_rfl) (by kernel_rfl) ?_;intro hne9;(repeat (go_big_quiet_step (first|(go_at_call 10;exact Q09 _ (HIG.out _))|(go_at_call 7;exact Q09 _ (Q0T _)))));(with_reducible refine wpQuiet_nil ?_);intro _ hw9;obtain ⟨pq,hw8⟩:=hw9;subst hw8)
    have HBg:=Q00 (HB.out.trans (pq.b.mono HB.out.size))
    clear Gx0 Gx1 Gx2 Gx3 Gx4 Gy0 Gy1 Gc2
    go_wp2
    go_ret
    exact ⟨rfl,HBg.out⟩
  ·rw [hdr] at a2
   clear HCS HIS hdr
   go_wp2_with fail
   refine (HIO.out v12).mono ?_
   rintro e v15 ⟨rfl,hb⟩
   replace x0:=(hb.cell (p:=⟨v1.heap.size,0,none⟩) zx).trans x0
   replace x1:=(hb.cell (p:=⟨v1.heap.size,1,none⟩) zx).trans x1
   replace x2:=(hb.cell (p:=⟨v1.heap.size,2,none⟩) zx).trans x2
   replace x3:=(hb.cell (p:=⟨v1.heap.size,3,none⟩) zx).trans x3
   replace x4:=(hb.cell (p:=⟨v1.heap.size,4,none⟩) zx).trans x4
   replace zx:v1.heap.size < v15.heap.size:=Kbq zx hb.size
   replace y0:=(hb.cell (p:=⟨W3.heap.size,0,none⟩) zy).trans y0
   replace y1:=(hb.cell (p:=⟨W3.heap.size,1,none⟩) zy).trans y1
   replace zy:W3.heap.size < v15.heap.size:=Kbq zy hb.size
   replace a0:=(hb.cell (p:=⟨v0.heap.size,0,none⟩) za).trans a0
   replace a1:=(hb.cell (p:=⟨v0.heap.size,1,none⟩) za).trans a1
   replace a2:=(hb.cell (p:=⟨v0.heap.size,2,none⟩) za).trans a2
   replace a3:=(hb.cell (p:=⟨v0.heap.size,3,none⟩) za).trans a3
   replace a4:=(hb.cell (p:=⟨v0.heap.size,4,none⟩) za).trans a4
   replace za:v0.heap.size < v15.heap.size:=Kbq za hb.size
   replace HB:=Q00 (HB.out.trans (hb.mono HB.out.size))
   replace HRa:=Q00 ((HRa.out.kept hb (Kaq _)).le hb.size)
   replace HRx:=Q00 ((HRx.out.kept hb (Kaq _)).le hb.size)
   clear hb
   go_wp2_with fail
   refine (HIH.out v15 HRx.out).mono ?_
   rintro e v16 ⟨rfl,hb⟩
   replace a0:=(hb.cell (p:=⟨v0.heap.size,0,none⟩) za).trans a0
   replace a1:=(hb.cell (p:=⟨v0.heap.size,1,none⟩) za).trans a1
   replace a2:=(hb.cell (p:=⟨v0.heap.size,2,none⟩) za).trans a2
   replace a3:=(hb.cell (p:=⟨v0.heap.size,3,none⟩) za).trans a3
   replace a4:=(hb.cell (p:=⟨v0.heap.size,4,none⟩) za).trans a4
   replace za:v0.heap.size < v16.heap.size:=Kbq za hb.size
   replace HB:=Q00 (HB.out.trans (hb.mono HB.out.size))
   replace HRa:=Q00 ((HRa.out.kept hb (Kaq _)).le hb.size)
   replace HRx:=Q00 ((HRx.out.kept hb (Kaq _)).le hb.size)
   clear hb
   go_wp2_with fail
   refine (Q0T v16).mono ?_
   rintro e v17 ⟨rfl,hb⟩
   replace a0:=(hb.cell (p:=⟨v0.heap.size,0,none⟩) za).trans a0
   replace a1:=(hb.cell (p:=⟨v0.heap.size,1,none⟩) za).trans a1
   replace a2:=(hb.cell (p:=⟨v0.heap.size,2,none⟩) za).trans a2
   replace a3:=(hb.cell (p:=⟨v0.heap.size,3,none⟩) za).trans a3
   replace a4:=(hb.cell (p:=⟨v0.heap.size,4,none⟩) za).trans a4
   replace za:v0.heap.size < v17.heap.size:=Kbq za hb.size
   replace HB:=Q00 (HB.out.trans (hb.mono HB.out.size))
   replace HRa:=Q00 ((HRa.out.kept hb (Kaq _)).le hb.size)
   replace HRx:=Q00 ((HRx.out.kept hb (Kaq _)).le hb.size)
   clear hb
   go_wp2
   go_ret
   exact ⟨rfl,HB.out⟩
  ·have hw1:IntKind.i64.wrap ((gn:Int) - 1)=(gn:Int) - 1:=by rw [IntKind.wrap_i64];omega
   clear HCS HIO
   rcases hfn with rfl|⟨rfl,rfl⟩
   ·
    go_wp2_with fail
    refine (HIH.out v12 HRx.out).mono ?_
    rintro e v18 ⟨rfl,hb⟩
    replace a0:=(hb.cell (p:=⟨v0.heap.size,0,none⟩) za).trans a0
    replace a1:=(hb.cell (p:=⟨v0.heap.size,1,none⟩) za).trans a1
    replace a2:=(hb.cell (p:=⟨v0.heap.size,2,none⟩) za).trans a2
    replace a3:=(hb.cell (p:=⟨v0.heap.size,3,none⟩) za).trans a3
    replace a4:=(hb.cell (p:=⟨v0.heap.size,4,none⟩) za).trans a4
    replace za:v0.heap.size < v18.heap.size:=Kbq za hb.size
    replace c0:=(hb.cell (p:=⟨v0.heap.size+1,0,none⟩) zc).trans c0
    replace c1:=(hb.cell (p:=⟨v0.heap.size+1,1,none⟩) zc).trans c1
    replace c2:=(hb.cell (p:=⟨v0.heap.size+1,2,none⟩) zc).trans c2
    replace c3:=(hb.cell (p:=⟨v0.heap.size+1,3,none⟩) zc).trans c3
    replace c4:=(hb.cell (p:=⟨v0.heap.size+1,4,none⟩) zc).trans c4
    replace c5:=(hb.cell (p:=⟨v0.heap.size+1,5,none⟩) zc).trans c5
    replace c6:=(hb.cell (p:=⟨v0.heap.size+1,6,none⟩) zc).trans c6
    replace c7:=(hb.cell (p:=⟨v0.heap.size+1,7,none⟩) zc).trans c7
    replace zc:v0.heap.size+1 < v18.heap.size:=Kbq zc hb.size
    replace s0:=(hb.cell (p:=⟨W2.heap.size,0,none⟩) zs).trans s0
    replace s1:=(hb.cell (p:=⟨W2.heap.size,1,none⟩) zs).trans s1
    replace zs:W2.heap.size < v18.heap.size:=Kbq zs hb.size
    replace x0:=(hb.cell (p:=⟨v1.heap.size,0,none⟩) zx).trans x0
    replace x1:=(hb.cell (p:=⟨v1.heap.size,1,none⟩) zx).trans x1
    replace x2:=(hb.cell (p:=⟨v1.heap.size,2,none⟩) zx).trans x2
    replace x3:=(hb.cell (p:=⟨v1.heap.size,3,none⟩) zx).trans x3
    replace x4:=(hb.cell (p:=⟨v1.heap.size,4,none⟩) zx).trans x4
    replace zx:v1.heap.size < v18.heap.size:=Kbq zx hb.size
    replace y0:=(hb.cell (p:=⟨W3.heap.size,0,none⟩) zy).trans y0
    replace y1:=(hb.cell (p:=⟨W3.heap.size,1,none⟩) zy).trans y1
    replace zy:W3.heap.size < v18.heap.size:=Kbq zy hb.size
    replace HB:=Q00 (HB.out.trans (hb.mono HB.out.size))
    replace HRa:=Q00 ((HRa.out.kept hb (Kaq _)).le hb.size)
    replace HRx:=Q00 ((HRx.out.kept hb (Kaq _)).le hb.size)
    clear hb
    go_wp2_with fail
    refine (Q0T v18).mono ?_
    rintro e v19 ⟨rfl,hb⟩
    replace a0:=(hb.cell (p:=⟨v0.heap.size,0,none⟩) za).trans a0
    replace a1:=(hb.cell (p:=⟨v0.heap.size,1,none⟩) za).trans a1
    replace a2:=(hb.cell (p:=⟨v0.heap.size,2,none⟩) za).trans a2
    replace a3:=(hb.cell (p:=⟨v0.heap.size,3,none⟩) za).trans a3
    replace a4:=(hb.cell (p:=⟨v0.heap.size,4,none⟩) za).trans a4
    replace za:v0.heap.size < v19.heap.size:=Kbq za hb.size
    replace HB:=Q00 (HB.out.trans (hb.mono HB.out.size))
    replace HRa:=Q00 ((HRa.out.kept hb (Kaq _)).le hb.size)
    replace HRx:=Q00 ((HRx.out.kept hb (Kaq _)).le hb.size)
    clear hb
    go_wp2
    go_ret
    exact ⟨rfl,HB.out⟩
   ·
    go_wp2_with fail
    refine (HIH.out v12 HRx.out).mono ?_
    rintro e v20 ⟨rfl,hb⟩
    replace a0:=(hb.cell (p:=⟨v0.heap.size,0,none⟩) za).trans a0
    replace a1:=(hb.cell (p:=⟨v0.heap.size,1,none⟩) za).trans a1
    replace a2:=(hb.cell (p:=⟨v0.heap.size,2,none⟩) za).trans a2
    replace a3:=(hb.cell (p:=⟨v0.heap.size,3,none⟩) za).trans a3
    replace a4:=(hb.cell (p:=⟨v0.heap.size,4,none⟩) za).trans a4
    replace za:v0.heap.size < v20.heap.size:=Kbq za hb.size
    replace c0:=(hb.cell (p:=⟨v0.heap.size+1,0,none⟩) zc).trans c0
    replace c1:=(hb.cell (p:=⟨v0.heap.size+1,1,none⟩) zc).trans c1
    replace c2:=(hb.cell (p:=⟨v0.heap.size+1,2,none⟩) zc).trans c2
    replace c3:=(hb.cell (p:=⟨v0.heap.size+1,3,none⟩) zc).trans c3
    replace c4:=(hb.cell (p:=⟨v0.heap.size+1,4,none⟩) zc).trans c4
    replace c5:=(hb.cell (p:=⟨v0.heap.size+1,5,none⟩) zc).trans c5
    replace c6:=(hb.cell (p:=⟨v0.heap.size+1,6,none⟩) zc).trans c6
    replace c7:=(hb.cell (p:=⟨v0.heap.size+1,7,none⟩) zc).trans c7
    replace zc:v0.heap.size+1 < v20.heap.size:=Kbq zc hb.size
    replace s0:=(hb.cell (p:=⟨W2.heap.size,0,none⟩) zs).trans s0
    replace s1:=(hb.cell (p:=⟨W2.heap.size,1,none⟩) zs).trans s1
    replace zs:W2.heap.size < v20.heap.size:=Kbq zs hb.size
    replace x0:=(hb.cell (p:=⟨v1.heap.size,0,none⟩) zx).trans x0
    replace x1:=(hb.cell (p:=⟨v1.heap.size,1,none⟩) zx).trans x1
    replace x2:=(hb.cell (p:=⟨v1.heap.size,2,none⟩) zx).trans x2
    replace x3:=(hb.cell (p:=⟨v1.heap.size,3,none⟩) zx).trans x3
    replace x4:=(hb.cell (p:=⟨v1.heap.size,4,none⟩) zx).trans x4
    replace zx:v1.heap.size < v20.heap.size:=Kbq zx hb.size
    replace y0:=(hb.cell (p:=⟨W3.heap.size,0,none⟩) zy).trans y0
    replace y1:=(hb.cell (p:=⟨W3.heap.size,1,none⟩) zy).trans y1
    replace zy:W3.heap.size < v20.heap.size:=Kbq zy hb.size
    replace HB:=Q00 (HB.out.trans (hb.mono HB.out.size))
    replace HRa:=Q00 ((HRa.out.kept hb (Kaq _)).le hb.size)
    replace HRx:=Q00 ((HRx.out.kept hb (Kaq _)).le hb.size)
    clear hb
    go_wp2_with fail
    refine (HIS.out v20 HRx.out).mono ?_
    rintro e v21 ⟨rfl,hb⟩
    replace a0:=(hb.cell (p:=⟨v0.heap.size,0,none⟩) za).trans a0
    replace a1:=(hb.cell (p:=⟨v0.heap.size,1,none⟩) za).trans a1
    replace a2:=(hb.cell (p:=⟨v0.heap.size,2,none⟩) za).trans a2
    replace a3:=(hb.cell (p:=⟨v0.heap.size,3,none⟩) za).trans a3
    replace a4:=(hb.cell (p:=⟨v0.heap.size,4,none⟩) za).trans a4
    replace za:v0.heap.size < v21.heap.size:=Kbq za hb.size
    replace HB:=Q00 (HB.out.trans (hb.mono HB.out.size))
    replace HRa:=Q00 ((HRa.out.kept hb (Kaq _)).le hb.size)
    replace HRx:=Q00 ((HRx.out.kept hb (Kaq _)).le hb.size)
    clear hb
    go_wp2_with fail
    refine (Q0T v21).mono ?_
    rintro e v22 ⟨rfl,hb⟩
    replace a0:=(hb.cell (p:=⟨v0.heap.size,0,none⟩) za).trans a0
    replace a1:=(hb.cell (p:=⟨v0.heap.size,1,none⟩) za).trans a1
    replace a2:=(hb.cell (p:=⟨v0.heap.size,2,none⟩) za).trans a2
    replace a3:=(hb.cell (p:=⟨v0.heap.size,3,none⟩) za).trans a3
    replace a4:=(hb.cell (p:=⟨v0.heap.size,4,none⟩) za).trans a4
    replace za:v0.heap.size < v22.heap.size:=Kbq za hb.size
    replace HB:=Q00 (HB.out.trans (hb.mono HB.out.size))
    replace HRa:=Q00 ((HRa.out.kept hb (Kaq _)).le hb.size)
    replace HRx:=Q00 ((HRx.out.kept hb (Kaq _)).le hb.size)
    clear hb
    go_wp2
    go_ret
    exact ⟨rfl,HB.out⟩
  ·replace hMm:=hMm.symm
   subst hMm
   have hw1:IntKind.i64.wrap ((gn:Int) - 1)=(gn:Int) - 1:=by rw [IntKind.wrap_i64];omega
   have hle2:(((q:Nat):Int)==(gn:Int) - 1)=true:=by simp [hle]
   clear HCS HIO HIH HIS
   go_wp2_with fail
   refine (Q1l (oc:=oc) (ot:=ot) (ox:=ox) (ou:=ou) (cc:=cc) (ct:=ct) (cx:=cx) (cu:=cu) v12 HRa.out HRx.out HF.out).mono ?_
   rintro e v23 ⟨rfl,hb⟩
   replace a0:=(hb.cell (p:=⟨v0.heap.size,0,none⟩) za).trans a0
   replace a1:=(hb.cell (p:=⟨v0.heap.size,1,none⟩) za).trans a1
   replace a2:=(hb.cell (p:=⟨v0.heap.size,2,none⟩) za).trans a2
   replace a3:=(hb.cell (p:=⟨v0.heap.size,3,none⟩) za).trans a3
   replace a4:=(hb.cell (p:=⟨v0.heap.size,4,none⟩) za).trans a4
   replace za:v0.heap.size < v23.heap.size:=Kbq za hb.size
   replace x0:=(hb.cell (p:=⟨v1.heap.size,0,none⟩) zx).trans x0
   replace x1:=(hb.cell (p:=⟨v1.heap.size,1,none⟩) zx).trans x1
   replace x2:=(hb.cell (p:=⟨v1.heap.size,2,none⟩) zx).trans x2
   replace x3:=(hb.cell (p:=⟨v1.heap.size,3,none⟩) zx).trans x3
   replace x4:=(hb.cell (p:=⟨v1.heap.size,4,none⟩) zx).trans x4
   replace zx:v1.heap.size < v23.heap.size:=Kbq zx hb.size
   replace HB:=Q00 (HB.out.trans (hb.mono HB.out.size))
   replace HRa:=Q00 ((HRa.out.kept hb (Kaq _)).le hb.size)
   replace HRx:=Q00 ((HRx.out.kept hb (Kaq _)).le hb.size)
   clear hb
   go_wp2_with fail
   refine (Q0T v23).mono ?_
   rintro e v24 ⟨rfl,hb⟩
   replace a0:=(hb.cell (p:=⟨v0.heap.size,0,none⟩) za).trans a0
   replace a1:=(hb.cell (p:=⟨v0.heap.size,1,none⟩) za).trans a1
   replace a2:=(hb.cell (p:=⟨v0.heap.size,2,none⟩) za).trans a2
   replace a3:=(hb.cell (p:=⟨v0.heap.size,3,none⟩) za).trans a3
   replace a4:=(hb.cell (p:=⟨v0.heap.size,4,none⟩) za).trans a4
   replace za:v0.heap.size < v24.heap.size:=Kbq za hb.size
   replace HB:=Q00 (HB.out.trans (hb.mono HB.out.size))
   replace HRa:=Q00 ((HRa.out.kept hb (Kaq _)).le hb.size)
   replace HRx:=Q00 ((HRx.out.kept hb (Kaq _)).le hb.size)
   clear hb
   go_wp2
   go_ret
   exact ⟨rfl,HB.out⟩
  ·replace hMm:=hMm.symm
   subst hMm
   have hw1:IntKind.i64.wrap (now - st)=now - st:=by rw [IntKind.wrap_i64];omega
   clear HCS HIH HIS
   go_wp2_with fail
   refine (HIO.out v12).mono ?_
   rintro e v25 ⟨rfl,hb⟩
   replace a0:=(hb.cell (p:=⟨v0.heap.size,0,none⟩) za).trans a0
   replace a1:=(hb.cell (p:=⟨v0.heap.size,1,none⟩) za).trans a1
   replace a2:=(hb.cell (p:=⟨v0.heap.size,2,none⟩) za).trans a2
   replace a3:=(hb.cell (p:=⟨v0.heap.size,3,none⟩) za).trans a3
   replace a4:=(hb.cell (p:=⟨v0.heap.size,4,none⟩) za).trans a4
   replace za:v0.heap.size < v25.heap.size:=Kbq za hb.size
   replace c0:=(hb.cell (p:=⟨v0.heap.size+1,0,none⟩) zc).trans c0
   replace c1:=(hb.cell (p:=⟨v0.heap.size+1,1,none⟩) zc).trans c1
   replace c2:=(hb.cell (p:=⟨v0.heap.size+1,2,none⟩) zc).trans c2
   replace c3:=(hb.cell (p:=⟨v0.heap.size+1,3,none⟩) zc).trans c3
   replace c4:=(hb.cell (p:=⟨v0.heap.size+1,4,none⟩) zc).trans c4
   replace c5:=(hb.cell (p:=⟨v0.heap.size+1,5,none⟩) zc).trans c5
   replace c6:=(hb.cell (p:=⟨v0.heap.size+1,6,none⟩) zc).trans c6
   replace c7:=(hb.cell (p:=⟨v0.heap.size+1,7,none⟩) zc).trans c7
   replace zc:v0.heap.size+1 < v25.heap.size:=Kbq zc hb.size
   replace x0:=(hb.cell (p:=⟨v1.heap.size,0,none⟩) zx).trans x0
   replace x1:=(hb.cell (p:=⟨v1.heap.size,1,none⟩) zx).trans x1
   replace x2:=(hb.cell (p:=⟨v1.heap.size,2,none⟩) zx).trans x2
   replace x3:=(hb.cell (p:=⟨v1.heap.size,3,none⟩) zx).trans x3
   replace x4:=(hb.cell (p:=⟨v1.heap.size,4,none⟩) zx).trans x4
   replace zx:v1.heap.size < v25.heap.size:=Kbq zx hb.size
   replace HB:=Q00 (HB.out.trans (hb.mono HB.out.size))
   replace HRa:=Q00 ((HRa.out.kept hb (Kaq _)).le hb.size)
   replace HRx:=Q00 ((HRx.out.kept hb (Kaq _)).le hb.size)
   clear hb
   go_wp2_with fail
   refine (Q1l (oc:=oc) (ot:=ot) (ox:=ox) (ou:=ou) (cc:=cc) (ct:=ct) (cx:=cx) (cu:=cu) v25 HRa.out HRx.out HF.out).mono ?_
   rintro e v26 ⟨rfl,hb⟩
   replace a0:=(hb.cell (p:=⟨v0.heap.size,0,none⟩) za).trans a0
   replace a1:=(hb.cell (p:=⟨v0.heap.size,1,none⟩) za).trans a1
   replace a2:=(hb.cell (p:=⟨v0.heap.size,2,none⟩) za).trans a2
   replace a3:=(hb.cell (p:=⟨v0.heap.size,3,none⟩) za).trans a3
   replace a4:=(hb.cell (p:=⟨v0.heap.size,4,none⟩) za).trans a4
   replace za:v0.heap.size < v26.heap.size:=Kbq za hb.size
   replace x0:=(hb.cell (p:=⟨v1.heap.size,0,none⟩) zx).trans x0
   replace x1:=(hb.cell (p:=⟨v1.heap.size,1,none⟩) zx).trans x1
   replace x2:=(hb.cell (p:=⟨v1.heap.size,2,none⟩) zx).trans x2
   replace x3:=(hb.cell (p:=⟨v1.heap.size,3,none⟩) zx).trans x3
   replace x4:=(hb.cell (p:=⟨v1.heap.size,4,none⟩) zx).trans x4
   replace zx:v1.heap.size < v26.heap.size:=Kbq zx hb.size
   replace HB:=Q00 (HB.out.trans (hb.mono HB.out.size))
   replace HRa:=Q00 ((HRa.out.kept hb (Kaq _)).le hb.size)
   replace HRx:=Q00 ((HRx.out.kept hb (Kaq _)).le hb.size)
   clear hb
   go_wp2_with fail
   refine (Q0T v26).mono ?_
   rintro e v27 ⟨rfl,hb⟩
   replace a0:=(hb.cell (p:=⟨v0.heap.size,0,none⟩) za).trans a0
   replace a1:=(hb.cell (p:=⟨v0.heap.size,1,none⟩) za).trans a1
   replace a2:=(hb.cell (p:=⟨v0.heap.size,2,none⟩) za).trans a2
   replace a3:=(hb.cell (p:=⟨v0.heap.size,3,none⟩) za).trans a3
   replace a4:=(hb.cell (p:=⟨v0.heap.size,4,none⟩) za).trans a4
   replace za:v0.heap.size < v27.heap.size:=Kbq za hb.size
   replace HB:=Q00 (HB.out.trans (hb.mono HB.out.size))
   replace HRa:=Q00 ((HRa.out.kept hb (Kaq _)).le hb.size)
   replace HRx:=Q00 ((HRx.out.kept hb (Kaq _)).le hb.size)
   clear hb
   go_wp2
   go_ret
   exact ⟨rfl,HB.out⟩
  ·replace hMm:=hMm.symm
   subst hMm
   clear HCS HIO HIH HIS
   go_wp2_with fail
   refine (Q1l (oc:=oc) (ot:=ot) (ox:=ox) (ou:=ou) (cc:=cc) (ct:=ct) (cx:=cx) (cu:=cu) v12 HRa.out HRx.out HF.out).mono ?_
   rintro e v28 ⟨rfl,hb⟩
   replace a0:=(hb.cell (p:=⟨v0.heap.size,0,none⟩) za).trans a0
   replace a1:=(hb.cell (p:=⟨v0.heap.size,1,none⟩) za).trans a1
   replace a2:=(hb.cell (p:=⟨v0.heap.size,2,none⟩) za).trans a2
   replace a3:=(hb.cell (p:=⟨v0.heap.size,3,none⟩) za).trans a3
   replace a4:=(hb.cell (p:=⟨v0.heap.size,4,none⟩) za).trans a4
   replace za:v0.heap.size < v28.heap.size:=Kbq za hb.size
   replace x0:=(hb.cell (p:=⟨v1.heap.size,0,none⟩) zx).trans x0
   replace x1:=(hb.cell (p:=⟨v1.heap.size,1,none⟩) zx).trans x1
   replace x2:=(hb.cell (p:=⟨v1.heap.size,2,none⟩) zx).trans x2
   replace x3:=(hb.cell (p:=⟨v1.heap.size,3,none⟩) zx).trans x3
   replace x4:=(hb.cell (p:=⟨v1.heap.size,4,none⟩) zx).trans x4
   replace zx:v1.heap.size < v28.heap.size:=Kbq zx hb.size
   replace HB:=Q00 (HB.out.trans (hb.mono HB.out.size))
   replace HRa:=Q00 ((HRa.out.kept hb (Kaq _)).le hb.size)
   replace HRx:=Q00 ((HRx.out.kept hb (Kaq _)).le hb.size)
   clear hb
   go_wp2_with fail
   refine (Q0T v28).mono ?_
   rintro e v29 ⟨rfl,hb⟩
   replace a0:=(hb.cell (p:=⟨v0.heap.size,0,none⟩) za).trans a0
   replace a1:=(hb.cell (p:=⟨v0.heap.size,1,none⟩) za).trans a1
   replace a2:=(hb.cell (p:=⟨v0.heap.size,2,none⟩) za).trans a2
   replace a3:=(hb.cell (p:=⟨v0.heap.size,3,none⟩) za).trans a3
   replace a4:=(hb.cell (p:=⟨v0.heap.size,4,none⟩) za).trans a4
   replace za:v0.heap.size < v29.heap.size:=Kbq za hb.size
   replace HB:=Q00 (HB.out.trans (hb.mono HB.out.size))
   replace HRa:=Q00 ((HRa.out.kept hb (Kaq _)).le hb.size)
   replace HRx:=Q00 ((HRx.out.kept hb (Kaq _)).le hb.size)
   clear hb
   go_wp2
   go_ret
   exact ⟨rfl,HB.out⟩
theorem fnHandles_lifted (os:Os) (started:os.Started) (H:Type) (enc:TypeId × Value→H):
  ReturnsInHanded {} Try.checked os 3 .any (Rows.fnHandlesSpec.pre6 enc Try.prog Try.f3 Rows.fnHandlesRow.domain false) (Rows.fnHandlesSpec.post enc Try.prog Try.f3 false true false false):=by
 refine returnsInHanded_of_change (C:=Try.checked) own started (by kernel_rfl) Try.func3
  (ChangeSpec.witness6 (enc:=enc) (C:=Try.checked) false ⟨#[],#[.slice none 0 0],[]⟩ 8 (by kernel_rfl) (by kernel_rfl) (by kernel_rfl) (by kernel_rfl)) ?_
 intro W base args ds gs before hval0 hW hcnd _
 have hval:∀(j:Nat) t v,Try.f3.params[j]? =some t→args[j]? =some v→Value.okWide Try.prog W .any base t v:=hval0
 have hW':=hW
 obtain ⟨p,q,hA0,hV,rfl,hfz,hnd⟩:=hW
 have hA:DataW.TrodAll enc Try.prog W 0 (fun _=> true) true Try.f3.params.toList args.toList ds p:=hA0
 rw [Try.params3] at hA hval
 obtain ⟨v0,vs0,d0,ds0,p0,q0,hargs,rfl,rfl,h0,r0⟩:=trodAll_cons hA
 obtain ⟨rfl,rfl,rfl⟩:=trodAll_nil r0
 obtain rfl:args=#[v0]:=by cases args;simp_all
 obtain ⟨rfl,rfl⟩:=trodVars_none hV
 have k0:=h0
 have lt0:∀x∈p0,x.block < W.heap.size:=by obtain ⟨m,hm⟩:=k0;exact DataW.trod_lt m _ _ _ hm
 obtain ⟨o0,cap0,l0,rfl,hm0,hR0,hB80⟩:=Q5U (hval 0 22 v0 rfl rfl) h0
 clear hA0 hval0
 refine (Q5X o0 cap0 l0 W hm0 hR0 hB80).mono fun e W' ⟨he,bel⟩=> ?_
 subst he
 exact ⟨_,rfl,_,_,_,[],_,[],hW',trodAll_mk1 (shut_bool Try.underlying4 _),(trodAll_cons_mk (Below.trod Q86 (by kernel_rfl) (of_decide_eq_true (by kernel_rfl)) k0 bel lt0) trodAll_mk0),rfl,bel.frame _,fun h=> by cases h⟩
theorem fnHandles_over:Rows.fnHandlesRow.holds Try.pinned (OpenSpec.ofChange Rows.fnHandlesSpec):=
 OpenClaim.holds_of_wide 3 Try.f3 rfl rfl rfl rfl rfl rfl rfl ⟨rfl,rfl,rfl,rfl,rfl⟩ rfl rfl rfl rfl rfl (by kernel_rfl) Try.func3 (by kernel_rfl)
  (of_decide_eq_true (by kernel_rfl)) (by unfold Func.isWrapper;first|(rw [if_pos (by decide+kernel)];kernel_rfl)|(rw [if_neg (by decide+kernel)];exact ⟨rfl,rfl⟩))
  (fun os started H enc _=> fnHandles_lifted os started H enc)
theorem fnHandles_holds:Rows.FnHandlesSaid:=fnHandles_over
end Go.Proofs.Ytljogkoaaidlcaa
