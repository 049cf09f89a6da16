/- Rows of mails: how they read, what owns its memory; the laws' own helpers over them. -/
import Derived.Test.YtgplppfbinfelaaGreatQOldest18
import Derived.Test.YtgplppfbinfelaaGreatQOldest31
namespace Go.Proofs.YtgplppfbinfelaaGreat
open Go.ChangeShapes Go.WideShapes Go.ChangeAt Go.RowKit Go.Joins
set_option linter.unusedVariables false
set_option linter.unusedSimpArgs false
set_option maxRecDepth 100000
set_option maxHeartbeats 40000000
theorem bCM {C b j:Nat} {w w':World} {u:Value} (h:Below C w w') (hc:w.cell? ⟨b,j,none⟩=some u) (hz:b < C):w'.cell? ⟨b,j,none⟩=some u:=(h.cell (p:=⟨b,j,none⟩) hz).trans hc
structure Mh where
 k:Int
 a:Int
 b:Int
 f:Int
 s:Int
 l:Hd
 g:Hd
 pl:Int
 st:Int
 fa:Int
 fp:Int
 bk:Int
def layMh:Lay Mh:=⟨12,fun h=> [.int .i64 h.k,.int .i64 h.a,.int .i64 h.b,.int .i64 h.f,.int .i64 h.s,.slice h.l.1 h.l.2.1 h.l.2.2,.slice h.g.1 h.g.2.1 h.g.2.2,.int .i64 h.pl,.int .i64 h.st,.int .i64 h.fa,.int .i64 h.fp,.int .i64 h.bk],⟨0,0,0,0,0,(none,0,0),(none,0,0),0,0,0,0,0⟩,fun _=> rfl⟩
abbrev mmD:Mm:=⟨0,Cm.zero,0,0,0⟩
abbrev valM (h:Mh):Value:=mlv h.k h.a h.b h.f h.s (.slice h.l.1 h.l.2.1 h.l.2.2) (.slice h.g.1 h.g.2.1 h.g.2.2) h.pl h.st h.fa h.fp h.bk
def RiM (lo hi:Nat) (w:World) (v:Value) (m:Mm):Prop:=∃o1 c1 o2 c2,v=mlv m.k m.c.a m.c.b m.c.f m.c.s (.slice o1 m.c.l.length c1) (.slice o2 m.c.g.length c2) m.c.pl m.c.st m.fa m.fp m.bk∧RiV layB lo hi w (.slice o1 m.c.l.length c1) m.c.l∧RiV layG lo hi w (.slice o2 m.c.g.length c2) m.c.g
def QM (lo hi:Nat) (w:World) (v:Value) (m:Mm):Prop:=∃v1 v2 a b a' b',v=mlv m.k m.c.a m.c.b m.c.f m.c.s v1 v2 m.c.pl m.c.st m.fa m.fp m.bk∧(lo≤a∧b≤hi∧lo≤a'∧b'≤hi)∧InL layB 5 a b w v1 m.c.l∧InL layG 231 a' b' w v2 m.c.g∧(v1.ownBlock=none∨v1.ownBlock≠v2.ownBlock)
theorem RiM.rs:Stps RiM:=⟨fun ⟨o1,c1,o2,c2,e,h1,h2⟩ s hd=> ⟨o1,c1,o2,c2,e,h1.step s hd,h2.step s hd⟩⟩
theorem RiM.rm:Monos RiM:=⟨fun ⟨o1,c1,o2,c2,e,h1,h2⟩ k1 k2=> ⟨o1,c1,o2,c2,e,h1.mono k1 k2,h2.mono k1 k2⟩⟩
theorem QM.qs:Stps QM:=⟨fun ⟨v1,v2,a,b,a',b',e,k,h1,h2,h3⟩ s hd=> ⟨v1,v2,a,b,a',b',e,k,InRow.step h1 s (by omega),InRow.step h2 s (by omega),h3⟩⟩
theorem QM.qr {lo hi:Nat} {w:World} {v:Value} {m:Mm} (h:QM lo hi w v m):RiM lo hi w v m:=by
 obtain ⟨v1,v2,a,b,a',b',e,k,h1,h2,_⟩:=h
 obtain ⟨o1,c1,e1,r1⟩:=InRow.ri h1
 obtain ⟨o2,c2,e2,r2⟩:=InRow.ri h2
 subst e1 e2
 exact ⟨o1,c1,o2,c2,e,RiV.mono ⟨o1,c1,rfl,r1⟩ k.1 k.2.1,RiV.mono ⟨o2,c2,rfl,r2⟩ k.2.2.1 k.2.2.2⟩
def elM:El Mh Mm:=⟨layMh,valM,RiM,QM,mmD,by decide,RiM.rs,RiM.rm,QM.qs,QM.qr⟩
theorem RiM.rd {C:Nat} {w:World} {v:Value} {m:Mm} (h:RiM 0 C w v m):RdMm C w v m:=by
 obtain ⟨o1,c1,o2,c2,e,⟨o1',c1',e1,r1⟩,⟨o2',c2',e2,r2⟩⟩:=h
 exact ⟨_,_,e,⟨o1',c1',e1,r1.rd⟩,⟨o2',c2',e2,r2.rd⟩⟩
theorem RiM.on {w w':World} {v:Value} {m:Mm} (h:RiM 0 w.heap.size w v m) (hb:Below w.heap.size w w'):RdMm w'.heap.size w' v m:=
 (RiM.rm.go (RiM.rs.go h (Stp.of (lo:=0) (hi:=0) hb) (.inl (Nat.zero_le _))) (Nat.le_refl _) hb.size).rd
theorem RiM.cells {a C:Nat} {w:World} {o:Option Addr} {n c:Nat} {xs:List Mm} (h:RiE elM a C w (.slice o n c) xs) (i:Nat) (hi:i < xs.length) {m:Mm} (hm:xs.getD i mmD=m):
  ∃b off o1 c1 o2 c2,o=some ⟨b,off,none⟩∧b < C∧w.cell? ⟨b,off+i * 12,none⟩=some (.int .i64 m.k)∧w.cell? ⟨b,off+i * 12+1,none⟩=some (.int .i64 m.c.a)∧w.cell? ⟨b,off+i * 12+2,none⟩=some (.int .i64 m.c.b)∧w.cell? ⟨b,off+i * 12+3,none⟩=some (.int .i64 m.c.f)∧w.cell? ⟨b,off+i * 12+4,none⟩=some (.int .i64 m.c.s)∧w.cell? ⟨b,off+i * 12+5,none⟩=some (.slice o1 m.c.l.length c1)∧w.cell? ⟨b,off+i * 12+6,none⟩=some (.slice o2 m.c.g.length c2)∧w.cell? ⟨b,off+i * 12+7,none⟩=some (.int .i64 m.c.pl)∧w.cell? ⟨b,off+i * 12+8,none⟩=some (.int .i64 m.c.st)∧w.cell? ⟨b,off+i * 12+9,none⟩=some (.int .i64 m.fa)∧w.cell? ⟨b,off+i * 12+10,none⟩=some (.int .i64 m.fp)∧w.cell? ⟨b,off+i * 12+11,none⟩=some (.int .i64 m.bk)∧RiM a C w (mlv m.k m.c.a m.c.b m.c.f m.c.s (.slice o1 m.c.l.length c1) (.slice o2 m.c.g.length c2) m.c.pl m.c.st m.fa m.fp m.bk) m∧RiV layB a C w (.slice o1 m.c.l.length c1) m.c.l∧RiV layG a C w (.slice o2 m.c.g.length c2) m.c.g:=by
 obtain ⟨b,off,y,rfl,hb,hc,hr⟩:=h.at i hi
 rw [show xs.getD i elM.d=m from hm] at hr
 obtain ⟨o1,c1,o2,c2,e,r1,r2⟩:=hr
 have e':Value.agg #[.int .i64 y.k,.int .i64 y.a,.int .i64 y.b,.int .i64 y.f,.int .i64 y.s,.slice y.l.1 y.l.2.1 y.l.2.2,.slice y.g.1 y.g.2.1 y.g.2.2,.int .i64 y.pl,.int .i64 y.st,.int .i64 y.fa,.int .i64 y.fp,.int .i64 y.bk]=Value.agg #[.int .i64 m.k,.int .i64 m.c.a,.int .i64 m.c.b,.int .i64 m.c.f,.int .i64 m.c.s,.slice o1 m.c.l.length c1,.slice o2 m.c.g.length c2,.int .i64 m.c.pl,.int .i64 m.c.st,.int .i64 m.fa,.int .i64 m.fp,.int .i64 m.bk]:=e
 simp only [Value.agg.injEq,Array.mk.injEq,List.cons.injEq,and_true] at e'
 obtain ⟨e0,e1,e2,e3,e4,e5,e6,e7,e8,e9,e10,e11⟩:=e'
 have h0:w.cell? ⟨b,off+i * 12,none⟩=some _:=hc 0 (by decide)
 rw [e0] at h0
 have h1:w.cell? ⟨b,off+i * 12+1,none⟩=some _:=hc 1 (by decide)
 rw [e1] at h1
 have h2:w.cell? ⟨b,off+i * 12+2,none⟩=some _:=hc 2 (by decide)
 rw [e2] at h2
 have h3:w.cell? ⟨b,off+i * 12+3,none⟩=some _:=hc 3 (by decide)
 rw [e3] at h3
 have h4:w.cell? ⟨b,off+i * 12+4,none⟩=some _:=hc 4 (by decide)
 rw [e4] at h4
 have h5:w.cell? ⟨b,off+i * 12+5,none⟩=some _:=hc 5 (by decide)
 rw [e5] at h5
 have h6:w.cell? ⟨b,off+i * 12+6,none⟩=some _:=hc 6 (by decide)
 rw [e6] at h6
 have h7:w.cell? ⟨b,off+i * 12+7,none⟩=some _:=hc 7 (by decide)
 rw [e7] at h7
 have h8:w.cell? ⟨b,off+i * 12+8,none⟩=some _:=hc 8 (by decide)
 rw [e8] at h8
 have h9:w.cell? ⟨b,off+i * 12+9,none⟩=some _:=hc 9 (by decide)
 rw [e9] at h9
 have h10:w.cell? ⟨b,off+i * 12+10,none⟩=some _:=hc 10 (by decide)
 rw [e10] at h10
 have h11:w.cell? ⟨b,off+i * 12+11,none⟩=some _:=hc 11 (by decide)
 rw [e11] at h11
 exact ⟨b,off,o1,c1,o2,c2,rfl,hb,h0,h1,h2,h3,h4,h5,h6,h7,h8,h9,h10,h11,⟨o1,c1,o2,c2,rfl,r1,r2⟩,r1,r2⟩
def cntM (xs:List Mm) (i:Nat):Nat:=(xs.getD i mmD).c.l.length+(xs.getD i mmD).c.g.length
def szMs (xs:List Mm):Nat:=sumN (cntM xs) xs.length
def lenMs (xs:List Mm):Prop:=xs.length≤maxLen∧∀i,i < xs.length→(xs.getD i mmD).c.l.length≤maxLen∧(xs.getD i mmD).c.g.length≤maxLen
theorem szMailS_any (v:Value) (xs:List Mm) (n:Int) (w:World) (hR:RiE elM 0 w.heap.size w v xs) (hl:lenMs xs) (h0:0≤n) (h1:n≤1048576):
  Calls Tryz.prog 39 #[v,.int .i64 n] w fun e w'=> (e=.returned (.int .i64 (-1))∨∃z:Int,e=.returned (.int .i64 z)∧0≤z∧z≤n∧(xs.length:Int)+(szMs xs:Int)≤n)∧Below w.heap.size w w':=by
 obtain ⟨o,cap,ev⟩:=hR.len
 subst ev
 obtain ⟨hl0,hx⟩:=hl
 have hl':=hl0
 unfold maxLen at hl'
 by_cases h:n - xs.length < 0
 ·go_enter Tryz.func39,Tryz.ntmps39
  go_wp2
  go_ret
  exact ⟨.inl rfl,Below.refl _ _⟩
 ·go_enter Tryz.func39,Tryz.ntmps39
  go_wp2
  go_loopw [1,5] (fun n' i wr=> ∃(k:Nat) (z:Int),k≤xs.length∧i=.int .i64 (k:Int)∧n'=.int .i64 z∧0≤z∧z≤n - (xs.length:Int) - (sumN (cntM xs) k:Int)∧Hid (Below w.heap.size w wr))
   (fun _ i _=> xs.length - (intOf i).toNat)
  case atStart=> exact ⟨0,n - xs.length,Nat.zero_le _,rfl,rfl,by omega,by simp [sumN],Below.refl _ _⟩
  case round=>
   obtain ⟨k,z,hk,rfl,rfl,hz0,hz1,HBr⟩:=hrel
   by_cases hlt:k < xs.length
   ·obtain ⟨m,hm⟩:∃m,xs.getD k mmD=m:=⟨_,rfl⟩
    obtain ⟨b,off,o1,c1,o2,c2,rfl,hb,p0,p1,p2,p3,p4,p5,p6,p7,p8,p9,p10,p11,_⟩:=RiM.cells hR k hlt hm
    have hxk:=hx k hlt
    rw [hm] at hxk
    have hsn:(0:Int)≤(sumN (cntM xs) k:Int):=by omega
    have HZ:=hide (szMail_any m.k m.c.a m.c.b m.c.f m.c.s o1 o2 m.c.l.length c1 m.c.g.length c2 m.c.pl m.c.st m.fa m.fp m.bk z wr hxk.1 hxk.2 hz0 (by omega))
    have HSU:=hide (show sumN (cntM xs) (k+1)=sumN (cntM xs) k+(m.c.l.length+m.c.g.length) by rw [←hm];rfl)
    replace p0:=bCM HBr.out p0 hb
    replace p1:=bCM HBr.out p1 hb
    replace p2:=bCM HBr.out p2 hb
    replace p3:=bCM HBr.out p3 hb
    replace p4:=bCM HBr.out p4 hb
    replace p5:=bCM HBr.out p5 hb
    replace p6:=bCM HBr.out p6 hb
    replace p7:=bCM HBr.out p7 hb
    replace p8:=bCM HBr.out p8 hb
    replace p9:=bCM HBr.out p9 hb
    replace p10:=bCM HBr.out p10 hb
    replace p11:=bCM HBr.out p11 hb
    have HR:=hide hR
    have z1:(k:Int) < (xs.length:Int):=by omega
    clear hxk hR hx hm
    obtain ⟨q1,hq1⟩:∃q,m.c.l.length=q:=⟨_,rfl⟩
    obtain ⟨q2,hq2⟩:∃q,m.c.g.length=q:=⟨_,rfl⟩
    rw [hq1,hq2] at HZ HSU
    rw [hq1] at p5
    rw [hq2] at p6
    clear hq1 hq2
    generalize sumN (cntM xs) k=sk at *
    obtain ⟨y,hy⟩:∃y:Int,(if z - q1 - q2 < 0 then -1 else z - q1 - q2)=y:=⟨_,rfl⟩
    rw [hy] at HZ
    have HY:=hide hy
    clear hy
    go_wp2_with fail
    refine HZ.out.mono ?_
    rintro e w2 ⟨rfl,hb2⟩
    have HB2:=hide (HBr.out.trans (hb2.mono HBr.out.size))
    clear hb2 p0 p1 p2 p3 p4 p5 p6 p7 p8 p9 p10 p11 HZ
    by_cases hyn:y < 0
    ·go_wp2
     go_ret
     exact ⟨.inl rfl,HB2.out⟩
    ·have hyn':¬(y < 0):=hyn
     go_wp2
     go_roundw
     case rel=> exact ⟨k+1,y,by omega,by go_num,rfl,by omega,(by have:=HY.out;rw [HSU.out];split at this <;> push_cast <;> omega),HB2.out⟩
     case measure=> simp [intOf];omega
   ·have e:k=xs.length:=by omega
    subst e
    have hsz:sumN (cntM xs) xs.length=szMs xs:=rfl
    rw [hsz] at hz1
    clear hsz
    go_wp2
    go_ret
    exact ⟨.inr ⟨z,rfl,hz0,by omega,by omega⟩,HBr.out⟩
theorem flat_set12 {α:Type} (L:Lay α) (hk:L.k=12) {v0 v1 v2 v3 v4 v5 v6 v7 v8 v9 v10 v11:Value} {a:α} (ha:L.cs a=[v0,v1,v2,v3,v4,v5,v6,v7,v8,v9,v10,v11]):∀(l:List α) (i:Nat),(((((((((((((l.flatMap L.cs).set (i * 12) v0).set (i * 12+1) v1).set (i * 12+2) v2).set (i * 12+3) v3).set (i * 12+4) v4).set (i * 12+5) v5).set (i * 12+6) v6).set (i * 12+7) v7).set (i * 12+8) v8).set (i * 12+9) v9).set (i * 12+10) v10).set (i * 12+11) v11)=(l.set i a).flatMap L.cs
 |[],i=> by simp
 |q::l,0=> by
  have hq:=(L.len q).trans hk
  match hc:L.cs q,hq with
  |[q0,q1,q2,q3,q4,q5,q6,q7,q8,q9,q10,q11],_=> simp [ha,hc]
 |q::l,i+1=> by
  have hq:=(L.len q).trans hk
  match hc:L.cs q,hq with
  |[q0,q1,q2,q3,q4,q5,q6,q7,q8,q9,q10,q11],_=>
   rw [show (i+1) * 12=i * 12+1+1+1+1+1+1+1+1+1+1+1+1 by omega]
   simp only [List.flatMap_cons,hc,List.cons_append,List.nil_append,List.set_cons_succ]
   rw [flat_set12 L hk ha l i]
theorem storedM {e:TypeId} {w wr:World} {base B g c n:Nat} {l:List Mh} {k:Nat} (h:Mh) (hg:B≤g) (hown:wr.ownsRow base e 12 (.slice (some ⟨g,0,none⟩) n c) n (l.flatMap layMh.cs)) (hB:Below B w wr):
  ((((((((((((wr.setCell ⟨g,k * 12,none⟩ (.int .i64 h.k)).setCell ⟨g,k * 12+1,none⟩ (.int .i64 h.a)).setCell ⟨g,k * 12+2,none⟩ (.int .i64 h.b)).setCell ⟨g,k * 12+3,none⟩ (.int .i64 h.f)).setCell ⟨g,k * 12+4,none⟩ (.int .i64 h.s)).setCell ⟨g,k * 12+5,none⟩ (.slice h.l.1 h.l.2.1 h.l.2.2)).setCell ⟨g,k * 12+6,none⟩ (.slice h.g.1 h.g.2.1 h.g.2.2)).setCell ⟨g,k * 12+7,none⟩ (.int .i64 h.pl)).setCell ⟨g,k * 12+8,none⟩ (.int .i64 h.st)).setCell ⟨g,k * 12+9,none⟩ (.int .i64 h.fa)).setCell ⟨g,k * 12+10,none⟩ (.int .i64 h.fp)).setCell ⟨g,k * 12+11,none⟩ (.int .i64 h.bk)).ownsRow base e 12 (.slice (some ⟨g,0,none⟩) n c) n ((l.set k h).flatMap layMh.cs)∧Below B w ((((((((((((wr.setCell ⟨g,k * 12,none⟩ (.int .i64 h.k)).setCell ⟨g,k * 12+1,none⟩ (.int .i64 h.a)).setCell ⟨g,k * 12+2,none⟩ (.int .i64 h.b)).setCell ⟨g,k * 12+3,none⟩ (.int .i64 h.f)).setCell ⟨g,k * 12+4,none⟩ (.int .i64 h.s)).setCell ⟨g,k * 12+5,none⟩ (.slice h.l.1 h.l.2.1 h.l.2.2)).setCell ⟨g,k * 12+6,none⟩ (.slice h.g.1 h.g.2.1 h.g.2.2)).setCell ⟨g,k * 12+7,none⟩ (.int .i64 h.pl)).setCell ⟨g,k * 12+8,none⟩ (.int .i64 h.st)).setCell ⟨g,k * 12+9,none⟩ (.int .i64 h.fa)).setCell ⟨g,k * 12+10,none⟩ (.int .i64 h.fp)).setCell ⟨g,k * 12+11,none⟩ (.int .i64 h.bk))∧Stp g (g+1) wr ((((((((((((wr.setCell ⟨g,k * 12,none⟩ (.int .i64 h.k)).setCell ⟨g,k * 12+1,none⟩ (.int .i64 h.a)).setCell ⟨g,k * 12+2,none⟩ (.int .i64 h.b)).setCell ⟨g,k * 12+3,none⟩ (.int .i64 h.f)).setCell ⟨g,k * 12+4,none⟩ (.int .i64 h.s)).setCell ⟨g,k * 12+5,none⟩ (.slice h.l.1 h.l.2.1 h.l.2.2)).setCell ⟨g,k * 12+6,none⟩ (.slice h.g.1 h.g.2.1 h.g.2.2)).setCell ⟨g,k * 12+7,none⟩ (.int .i64 h.pl)).setCell ⟨g,k * 12+8,none⟩ (.int .i64 h.st)).setCell ⟨g,k * 12+9,none⟩ (.int .i64 h.fa)).setCell ⟨g,k * 12+10,none⟩ (.int .i64 h.fp)).setCell ⟨g,k * 12+11,none⟩ (.int .i64 h.bk)):=by
 have q:=((((((((((((hown.stored (k * 12) (.int .i64 h.k)).1.stored (k * 12+1) (.int .i64 h.a)).1.stored (k * 12+2) (.int .i64 h.b)).1.stored (k * 12+3) (.int .i64 h.f)).1.stored (k * 12+4) (.int .i64 h.s)).1.stored (k * 12+5) (.slice h.l.1 h.l.2.1 h.l.2.2)).1.stored (k * 12+6) (.slice h.g.1 h.g.2.1 h.g.2.2)).1.stored (k * 12+7) (.int .i64 h.pl)).1.stored (k * 12+8) (.int .i64 h.st)).1.stored (k * 12+9) (.int .i64 h.fa)).1.stored (k * 12+10) (.int .i64 h.fp)).1.stored (k * 12+11) (.int .i64 h.bk)).1
 rw [flat_set12 layMh rfl (a:=h) rfl] at q
 exact ⟨q,((((((((((((hB.setCell (p:=⟨g,k * 12,none⟩) hg _).setCell (p:=⟨g,k * 12+1,none⟩) hg _).setCell (p:=⟨g,k * 12+2,none⟩) hg _).setCell (p:=⟨g,k * 12+3,none⟩) hg _).setCell (p:=⟨g,k * 12+4,none⟩) hg _).setCell (p:=⟨g,k * 12+5,none⟩) hg _).setCell (p:=⟨g,k * 12+6,none⟩) hg _).setCell (p:=⟨g,k * 12+7,none⟩) hg _).setCell (p:=⟨g,k * 12+8,none⟩) hg _).setCell (p:=⟨g,k * 12+9,none⟩) hg _).setCell (p:=⟨g,k * 12+10,none⟩) hg _).setCell (p:=⟨g,k * 12+11,none⟩) hg _),(((((((((((((Stp.refl wr).trans (stp_set1 _ g (k * 12) _)).trans (stp_set1 _ g (k * 12+1) _)).trans (stp_set1 _ g (k * 12+2) _)).trans (stp_set1 _ g (k * 12+3) _)).trans (stp_set1 _ g (k * 12+4) _)).trans (stp_set1 _ g (k * 12+5) _)).trans (stp_set1 _ g (k * 12+6) _)).trans (stp_set1 _ g (k * 12+7) _)).trans (stp_set1 _ g (k * 12+8) _)).trans (stp_set1 _ g (k * 12+9) _)).trans (stp_set1 _ g (k * 12+10) _)).trans (stp_set1 _ g (k * 12+11) _))⟩
theorem infoM:(Tryz.prog.info? 96).map (fun i=> (i.zero,i.size,i.bytes))=some (some (.agg #[.int .i64 0,.int .i64 0,.int .i64 0,.int .i64 0,.int .i64 0,.slice none 0 0,.slice none 0 0,.int .i64 0,.int .i64 0,.int .i64 0,.int .i64 0,.int .i64 0]),12,128):=by kernel_rfl
theorem toMailS_any (v:Value) (xs:List Mm) (w:World) (hR:RiE elM 0 w.heap.size w v xs) (hlen:xs.length≤1048576) (hx:∀i,i < xs.length→fitCm (xs.getD i mmD).c):
  Calls Tryz.prog 47 #[v] w fun e w'=> ∃v',e=.returned v'∧InE elM 96 w.heap.size w'.heap.size w' v' xs∧Below w.heap.size w w':=by
 obtain ⟨o,cap,ev⟩:=hR.len
 subst ev
 obtain ⟨i0,hi,hz0,hz1,hz2⟩:=info_parts infoM
 have HR0:=hide hR
 have HX:=hide hx
 clear hR hx
 go_enter Tryz.func47,Tryz.ntmps47
 go_wp2_with (at_make;refine wpList_make_full _ rfl _ _ 53 rfl w.heap.size 96 i0 (mlv 0 0 0 0 0 (.slice none 0 0) (.slice none 0 0) 0 0 0 0 0) 12 Tryz.underlying53 hi hz0 hz1 _ _ _ _ xs.length rfl rfl rfl rfl ?b2 ?b3 ?b4 ?_)
 case b2=> rw [hz2];omega
 case b3=> unfold maxLen;omega
 case b4=> simp
 intro w3 hown hgrow
 have HB3:=hide (show Below w.heap.size w w3 from (Below.refl _ _).grown hgrow (Nat.le_refl _) (fun k h=> by cases h))
 have HO3:Hid (w3.ownsRow w.heap.size 96 12 (.slice (some ⟨w.heap.size,0,none⟩) xs.length xs.length) xs.length ((fillE layMh [] xs.length 0).flatMap layMh.cs)):=by
  rw [fillE_zero,←made_flat layMh (mlv 0 0 0 0 0 (.slice none 0 0) (.slice none 0 0) 0 0 0 0 0) rfl];exact hown
 have hs3:w.heap.size+1≤w3.heap.size:=(hown.lt w.heap.size rfl).2
 clear hown hgrow
 go_wp2
 go_loopw [4] (fun iv wr=> ∃(k:Nat) (hs:List Mh) (L H:Nat→Nat),k≤xs.length∧iv=.int .i64 (k:Int)∧Hid (wr.ownsRow w.heap.size 96 12 (.slice (some ⟨w.heap.size,0,none⟩) xs.length xs.length) xs.length ((fillE layMh hs xs.length k).flatMap layMh.cs))∧Hid (RwE elM (xs.take k) (w.heap.size+1) wr.heap.size wr hs L H)∧Hid (Below w.heap.size w wr)∧w.heap.size+1≤wr.heap.size)
  (fun iv _=> xs.length - (intOf iv).toNat)
 case atStart=> exact ⟨0,[],fun _=> 0,fun _=> 0,Nat.zero_le _,rfl,HO3.out,by rw [List.take_zero];exact RwE.nil _ _ _ _ _ _,HB3.out,hs3⟩
 case round=>
  obtain ⟨k,hs,L,H,hk8,rfl,HO,HR,HBr,hsr⟩:=hrel
  clear HO3 HB3 hs3
  have hhl:hs.length=k:=by have h1:=HR.out.len;rw [List.length_take] at h1;omega
  have HHL:=hide hhl
  by_cases hlt:k < xs.length
  ·have z1:(k:Int) < (xs.length:Int):=by omega
   obtain ⟨m,hm⟩:∃m,xs.getD k mmD=m:=⟨_,rfl⟩
   have HS:=hide (takeE_snoc (xs:=xs) mmD hlt)
   have hxk:=HX.out k hlt
   rw [hm] at HS hxk
   obtain ⟨b,off,o1,c1,o2,c2,rfl,hbl,p0,p1,p2,p3,p4,p5,p6,p7,p8,p9,p10,p11,rr,_⟩:=RiM.cells HR0.out k hlt hm
   have HL:=hide (toMail_sh _ m wr (rr.on HBr.out) hxk)
   replace p0:=bCM HBr.out p0 hbl
   replace p1:=bCM HBr.out p1 hbl
   replace p2:=bCM HBr.out p2 hbl
   replace p3:=bCM HBr.out p3 hbl
   replace p4:=bCM HBr.out p4 hbl
   replace p5:=bCM HBr.out p5 hbl
   replace p6:=bCM HBr.out p6 hbl
   replace p7:=bCM HBr.out p7 hbl
   replace p8:=bCM HBr.out p8 hbl
   replace p9:=bCM HBr.out p9 hbl
   replace p10:=bCM HBr.out p10 hbl
   replace p11:=bCM HBr.out p11 hbl
   have HW:=hide hlt
   clear rr hm hxk hhl
   obtain ⟨q1,hq1⟩:∃q,m.c.l.length=q:=⟨_,rfl⟩
   obtain ⟨q2,hq2⟩:∃q,m.c.g.length=q:=⟨_,rfl⟩
   have HQ:=hide (And.intro hq1 hq2)
   rw [hq1,hq2] at HL
   rw [hq1] at p5
   rw [hq2] at p6
   clear hq1 hq2
   go_wp2_with fail
   refine HL.out.mono ?_
   rintro e w2 ⟨v4,rfl,in4,hb2⟩
   obtain ⟨vl,vg,rfl,il,ig⟩:=in4
   obtain ⟨o3,c3,rfl,_⟩:=InL.rd (L:=layB) il
   obtain ⟨o4,c4,rfl,_⟩:=InL.rd (L:=layG) ig
   have HIN:Hid (QM wr.heap.size w2.heap.size w2 (mlv m.k m.c.a m.c.b m.c.f m.c.s (.slice o3 m.c.l.length c3) (.slice o4 m.c.g.length c4) m.c.pl m.c.st m.fa m.fp m.bk) m):=⟨_,_,_,_,_,_,rfl,⟨Nat.le_refl _,Nat.le_refl _,Nat.le_refl _,Nat.le_refl _⟩,il,ig,own_apart0 il.1 ig.1 (by decide)⟩
   have hown2:=own_kept HO.out hb2
   have hln:((fillE layMh hs xs.length k).flatMap layMh.cs).length=xs.length * 12:=by rw [flat_length,fillE_len hk8 HHL.out];rfl
   obtain ⟨u0,hu0⟩:∃u,w2.cell? ⟨w.heap.size,k * 12,none⟩=some u:=⟨_,(hown2.cellAt (k * 12) (by omega)).trans (List.getElem?_eq_getElem (by omega))⟩
   have hf0:=hown2.frozenAt (k * 12)
   obtain ⟨u1,hu1⟩:∃u,w2.cell? ⟨w.heap.size,k * 12+1,none⟩=some u:=⟨_,(hown2.cellAt (k * 12+1) (by omega)).trans (List.getElem?_eq_getElem (by omega))⟩
   have hf1:=hown2.frozenAt (k * 12+1)
   obtain ⟨u2,hu2⟩:∃u,w2.cell? ⟨w.heap.size,k * 12+2,none⟩=some u:=⟨_,(hown2.cellAt (k * 12+2) (by omega)).trans (List.getElem?_eq_getElem (by omega))⟩
   have hf2:=hown2.frozenAt (k * 12+2)
   obtain ⟨u3,hu3⟩:∃u,w2.cell? ⟨w.heap.size,k * 12+3,none⟩=some u:=⟨_,(hown2.cellAt (k * 12+3) (by omega)).trans (List.getElem?_eq_getElem (by omega))⟩
   have hf3:=hown2.frozenAt (k * 12+3)
   obtain ⟨u4,hu4⟩:∃u,w2.cell? ⟨w.heap.size,k * 12+4,none⟩=some u:=⟨_,(hown2.cellAt (k * 12+4) (by omega)).trans (List.getElem?_eq_getElem (by omega))⟩
   have hf4:=hown2.frozenAt (k * 12+4)
   obtain ⟨u5,hu5⟩:∃u,w2.cell? ⟨w.heap.size,k * 12+5,none⟩=some u:=⟨_,(hown2.cellAt (k * 12+5) (by omega)).trans (List.getElem?_eq_getElem (by omega))⟩
   have hf5:=hown2.frozenAt (k * 12+5)
   obtain ⟨u6,hu6⟩:∃u,w2.cell? ⟨w.heap.size,k * 12+6,none⟩=some u:=⟨_,(hown2.cellAt (k * 12+6) (by omega)).trans (List.getElem?_eq_getElem (by omega))⟩
   have hf6:=hown2.frozenAt (k * 12+6)
   obtain ⟨u7,hu7⟩:∃u,w2.cell? ⟨w.heap.size,k * 12+7,none⟩=some u:=⟨_,(hown2.cellAt (k * 12+7) (by omega)).trans (List.getElem?_eq_getElem (by omega))⟩
   have hf7:=hown2.frozenAt (k * 12+7)
   obtain ⟨u8,hu8⟩:∃u,w2.cell? ⟨w.heap.size,k * 12+8,none⟩=some u:=⟨_,(hown2.cellAt (k * 12+8) (by omega)).trans (List.getElem?_eq_getElem (by omega))⟩
   have hf8:=hown2.frozenAt (k * 12+8)
   obtain ⟨u9,hu9⟩:∃u,w2.cell? ⟨w.heap.size,k * 12+9,none⟩=some u:=⟨_,(hown2.cellAt (k * 12+9) (by omega)).trans (List.getElem?_eq_getElem (by omega))⟩
   have hf9:=hown2.frozenAt (k * 12+9)
   obtain ⟨u10,hu10⟩:∃u,w2.cell? ⟨w.heap.size,k * 12+10,none⟩=some u:=⟨_,(hown2.cellAt (k * 12+10) (by omega)).trans (List.getElem?_eq_getElem (by omega))⟩
   have hf10:=hown2.frozenAt (k * 12+10)
   obtain ⟨u11,hu11⟩:∃u,w2.cell? ⟨w.heap.size,k * 12+11,none⟩=some u:=⟨_,(hown2.cellAt (k * 12+11) (by omega)).trans (List.getElem?_eq_getElem (by omega))⟩
   have hf11:=hown2.frozenAt (k * 12+11)
   have HB2:=hide (HBr.out.trans (hb2.mono HBr.out.size))
   obtain ⟨L2,H2,hsn⟩:∃L2 H2,RwE elM (xs.take k++[m]) (w.heap.size+1) w2.heap.size w2 (hs++[⟨m.k,m.c.a,m.c.b,m.c.f,m.c.s,(o3,m.c.l.length,c3),(o4,m.c.g.length,c4),m.c.pl,m.c.st,m.fa,m.fp,m.bk⟩]) L2 H2:=⟨_,_,HR.out.kept hb2|>.snoc (l2:=wr.heap.size) (h2:=w2.heap.size) (y:=⟨m.k,m.c.a,m.c.b,m.c.f,m.c.s,(o3,m.c.l.length,c3),(o4,m.c.g.length,c4),m.c.pl,m.c.st,m.fa,m.fp,m.bk⟩) (x:=m) (Nat.le_refl _) (by omega) hb2.size (show elM.Q wr.heap.size w2.heap.size w2 (elM.val ⟨m.k,m.c.a,m.c.b,m.c.f,m.c.s,(o3,m.c.l.length,c3),(o4,m.c.g.length,c4),m.c.pl,m.c.st,m.fa,m.fp,m.bk⟩) m from HIN.out)⟩
   rw [←HS.out] at hsn
   have ST:=hide (storedM (k:=k) ⟨m.k,m.c.a,m.c.b,m.c.f,m.c.s,(o3,m.c.l.length,c3),(o4,m.c.g.length,c4),m.c.pl,m.c.st,m.fa,m.fp,m.bk⟩ (Nat.le_refl w.heap.size) hown2 HB2.out)
   have HF:=hide (fillE_set (L:=layMh) HW.out HHL.out ⟨m.k,m.c.a,m.c.b,m.c.f,m.c.s,(o3,m.c.l.length,c3),(o4,m.c.g.length,c4),m.c.pl,m.c.st,m.fa,m.fp,m.bk⟩)
   have HS2:=hide hsn
   have hs5:w.heap.size+1≤w2.heap.size:=by have:=hb2.size;omega
   have HQ1:=HQ.out.1
   have HQ2:=HQ.out.2
   rw [HQ1,HQ2] at ST HF HS2 ⊢
   clear HQ1 HQ2 hown2 hb2 hln hsn il ig p0 p1 p2 p3 p4 p5 p6 p7 p8 p9 p10 p11 HL
   go_wp2
   go_roundw
   case rel=>
    refine ⟨k+1,hs++[⟨m.k,m.c.a,m.c.b,m.c.f,m.c.s,(o3,q1,c3),(o4,q2,c4),m.c.pl,m.c.st,m.fa,m.fp,m.bk⟩],L2,H2,by omega,by go_num,(by have h:=ST.out.1;rw [HF.out] at h;exact h), ?_,ST.out.2.1,by simpa using hs5⟩
    exact RwE.mono (HS2.out.step ST.out.2.2 (fun i hi=> .inl (HS2.out.bd i hi).1)) (Nat.le_refl _) (by simp)
   case measure=> simp [intOf];omega
  ·have e:k=xs.length:=by omega
   subst e
   go_wp2
   go_ret
   have h2:=HR.out
   rw [List.take_length] at h2
   exact ⟨_,rfl,InE.filled HO.out h2 (by omega),HBr.out⟩
theorem eqMailS_same (v1 v2:Value) (xs:List Mm) (w:World) (h1:RiE elM 0 w.heap.size w v1 xs) (h2:RiE elM 0 w.heap.size w v2 xs) (hl:xs.length≤1048576) (hx:∀i,i < xs.length→(xs.getD i mmD).c.l.length≤1048576∧(xs.getD i mmD).c.g.length≤1048576):
  Calls Tryz.prog 52 #[v1,v2] w fun e w'=> e=.returned (.bool true)∧Below w.heap.size w w':=by
 obtain ⟨oa,ca,ev1⟩:=h1.len
 obtain ⟨ob,cb,ev2⟩:=h2.len
 subst ev1 ev2
 go_enter Tryz.func52,Tryz.ntmps52
 go_wp2
 go_loopw [5] (fun i wr=> ∃k:Nat,k≤xs.length∧i=.int .i64 k∧Hid (Below w.heap.size w wr))
  (fun i _=> xs.length - (intOf i).toNat)
 case atStart=> exact ⟨0,Nat.zero_le _,rfl,Below.refl _ _⟩
 case round=>
  obtain ⟨k,hk,rfl,HB⟩:=hrel
  by_cases hlt:k < xs.length
  ·have z1:(k:Int) < (xs.length:Int):=by omega
   obtain ⟨m,hm⟩:∃m,xs.getD k mmD=m:=⟨_,rfl⟩
   have hxk:=hx k hlt
   rw [hm] at hxk
   obtain ⟨b1,off1,o1,c1,o2,c2,rfl,hb1,p0,p1,p2,p3,p4,p5,p6,p7,p8,p9,p10,p11,g1,_⟩:=RiM.cells h1 k hlt hm
   obtain ⟨b2,off2,o3,c3,o4,c4,rfl,hb2,r0,r1,r2,r3,r4,r5,r6,r7,r8,r9,r10,r11,g2,_⟩:=RiM.cells h2 k hlt hm
   have HE:Hid (∀W,Below w.heap.size w W→Calls Tryz.prog 109 #[mlv m.k m.c.a m.c.b m.c.f m.c.s (.slice o1 m.c.l.length c1) (.slice o2 m.c.g.length c2) m.c.pl m.c.st m.fa m.fp m.bk,mlv m.k m.c.a m.c.b m.c.f m.c.s (.slice o3 m.c.l.length c3) (.slice o4 m.c.g.length c4) m.c.pl m.c.st m.fa m.fp m.bk] W fun e w'=> e=.returned (.bool true)∧Below W.heap.size W w'):=fun W hW=> eqMail_sh _ _ m W (g1.on hW) (g2.on hW) hxk.1 hxk.2
   replace p0:=bCM HB.out p0 hb1
   replace p1:=bCM HB.out p1 hb1
   replace p2:=bCM HB.out p2 hb1
   replace p3:=bCM HB.out p3 hb1
   replace p4:=bCM HB.out p4 hb1
   replace p5:=bCM HB.out p5 hb1
   replace p6:=bCM HB.out p6 hb1
   replace p7:=bCM HB.out p7 hb1
   replace p8:=bCM HB.out p8 hb1
   replace p9:=bCM HB.out p9 hb1
   replace p10:=bCM HB.out p10 hb1
   replace p11:=bCM HB.out p11 hb1
   replace r0:=bCM HB.out r0 hb2
   replace r1:=bCM HB.out r1 hb2
   replace r2:=bCM HB.out r2 hb2
   replace r3:=bCM HB.out r3 hb2
   replace r4:=bCM HB.out r4 hb2
   replace r5:=bCM HB.out r5 hb2
   replace r6:=bCM HB.out r6 hb2
   replace r7:=bCM HB.out r7 hb2
   replace r8:=bCM HB.out r8 hb2
   replace r9:=bCM HB.out r9 hb2
   replace r10:=bCM HB.out r10 hb2
   replace r11:=bCM HB.out r11 hb2
   have H1:=hide h1
   have H2:=hide h2
   have hs1:b1 < wr.heap.size:=Nat.lt_of_lt_of_le hb1 HB.out.size
   have hs2:b2 < wr.heap.size:=Nat.lt_of_lt_of_le hb2 HB.out.size
   obtain ⟨q1,hq1⟩:∃q,m.c.l.length=q:=⟨_,rfl⟩
   obtain ⟨q2,hq2⟩:∃q,m.c.g.length=q:=⟨_,rfl⟩
   rw [hq1,hq2] at HE
   rw [hq1] at p5 r5
   rw [hq2] at p6 r6
   clear hq1 hq2 g1 g2 h1 h2 hm hxk hx
   go_wp2
   go_region_held3 (fun w'=> w'.cell? ⟨b1,off1+k * 12,none⟩=some (.int .i64 m.k)∧w'.cell? ⟨b1,off1+k * 12+1,none⟩=some (.int .i64 m.c.a)∧w'.cell? ⟨b1,off1+k * 12+2,none⟩=some (.int .i64 m.c.b)∧w'.cell? ⟨b1,off1+k * 12+3,none⟩=some (.int .i64 m.c.f)∧w'.cell? ⟨b1,off1+k * 12+4,none⟩=some (.int .i64 m.c.s)∧w'.cell? ⟨b1,off1+k * 12+5,none⟩=some (.slice o1 q1 c1)∧w'.cell? ⟨b1,off1+k * 12+6,none⟩=some (.slice o2 q2 c2)∧w'.cell? ⟨b1,off1+k * 12+7,none⟩=some (.int .i64 m.c.pl)∧w'.cell? ⟨b1,off1+k * 12+8,none⟩=some (.int .i64 m.c.st)∧w'.cell? ⟨b1,off1+k * 12+9,none⟩=some (.int .i64 m.fa)∧w'.cell? ⟨b1,off1+k * 12+10,none⟩=some (.int .i64 m.fp)∧w'.cell? ⟨b1,off1+k * 12+11,none⟩=some (.int .i64 m.bk)∧w'.cell? ⟨b2,off2+k * 12,none⟩=some (.int .i64 m.k)∧w'.cell? ⟨b2,off2+k * 12+1,none⟩=some (.int .i64 m.c.a)∧w'.cell? ⟨b2,off2+k * 12+2,none⟩=some (.int .i64 m.c.b)∧w'.cell? ⟨b2,off2+k * 12+3,none⟩=some (.int .i64 m.c.f)∧w'.cell? ⟨b2,off2+k * 12+4,none⟩=some (.int .i64 m.c.s)∧w'.cell? ⟨b2,off2+k * 12+5,none⟩=some (.slice o3 q1 c3)∧w'.cell? ⟨b2,off2+k * 12+6,none⟩=some (.slice o4 q2 c4)∧w'.cell? ⟨b2,off2+k * 12+7,none⟩=some (.int .i64 m.c.pl)∧w'.cell? ⟨b2,off2+k * 12+8,none⟩=some (.int .i64 m.c.st)∧w'.cell? ⟨b2,off2+k * 12+9,none⟩=some (.int .i64 m.fa)∧w'.cell? ⟨b2,off2+k * 12+10,none⟩=some (.int .i64 m.fp)∧w'.cell? ⟨b2,off2+k * 12+11,none⟩=some (.int .i64 m.bk)) (first|exact ⟨p0,p1,p2,p3,p4,p5,p6,p7,p8,p9,p10,p11,r0,r1,r2,r3,r4,r5,r6,r7,r8,r9,r10,r11⟩) (first|(go_at_call 109;refine (HE.out _ (Below.drew HB.out)).mono ?_;rintro e w2 ⟨rfl,hb3⟩;replace hb3:Below wr.heap.size wr w2:=(Below.drew (Below.refl _ _)).trans hb3;have p0:=bCM hb3 p0 hs1;have p1:=bCM hb3 p1 hs1;have p2:=bCM hb3 p2 hs1;have p3:=bCM hb3 p3 hs1;have p4:=bCM hb3 p4 hs1;have p5:=bCM hb3 p5 hs1;have p6:=bCM hb3 p6 hs1;have p7:=bCM hb3 p7 hs1;have p8:=bCM hb3 p8 hs1;have p9:=bCM hb3 p9 hs1;have p10:=bCM hb3 p10 hs1;have p11:=bCM hb3 p11 hs1;have r0:=bCM hb3 r0 hs2;have r1:=bCM hb3 r1 hs2;have r2:=bCM hb3 r2 hs2;have r3:=bCM hb3 r3 hs2;have r4:=bCM hb3 r4 hs2;have r5:=bCM hb3 r5 hs2;have r6:=bCM hb3 r6 hs2;have r7:=bCM hb3 r7 hs2;have r8:=bCM hb3 r8 hs2;have r9:=bCM hb3 r9 hs2;have r10:=bCM hb3 r10 hs2;have r11:=bCM hb3 r11 hs2))
   have HB3:=hide (HB.out.trans (hb3.mono HB.out.size))
   clear hb3 p0 p1 p2 p3 p4 p5 p6 p7 p8 p9 p10 p11 r0 r1 r2 r3 r4 r5 r6 r7 r8 r9 r10 r11
   go_wp2
   go_roundw
   case rel=> exact ⟨k+1,by omega,by go_num,HB3.out⟩
   case measure=> simp [intOf];omega
  ·have e:k=xs.length:=by omega
   subst e
   go_wp2
   go_ret
   exact ⟨rfl,HB.out⟩
end Go.Proofs.YtgplppfbinfelaaGreat
