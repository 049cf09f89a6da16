/- Several texts in one: ShMs, ShMs2. -/
import Derived.Test.YtgplppfbinfelaaGreatQOwners18
import Derived.Test.YtgplppfbinfelaaGreatQOwners31
namespace Go.Proofs.YtgplppfbinfelaaGreat
open Go.ChangeShapes Go.WideShapes Go.ChangeAt Go.RowKit Go.Joins
set_option linter.unusedVariables false
set_option linter.unusedSimpArgs false
set_option maxRecDepth 100000
set_option maxHeartbeats 40000000
theorem bCM {C b j:Nat} {w w':World} {u:Value} (h:Below C w w') (hc:w.cell? ⟨b,j,none⟩=some u) (hz:b < C):w'.cell? ⟨b,j,none⟩=some u:=(h.cell (p:=⟨b,j,none⟩) hz).trans hc
structure Mh where
 k:Int
 a:Int
 b:Int
 f:Int
 s:Int
 l:Hd
 g:Hd
 pl:Int
 st:Int
 fa:Int
 fp:Int
 bk:Int
def Q0A:Lay Mh:=⟨12,fun h=> [.int .i64 h.k,.int .i64 h.a,.int .i64 h.b,.int .i64 h.f,.int .i64 h.s,.slice h.l.1 h.l.2.1 h.l.2.2,.slice h.g.1 h.g.2.1 h.g.2.2,.int .i64 h.pl,.int .i64 h.st,.int .i64 h.fa,.int .i64 h.fp,.int .i64 h.bk],⟨0,0,0,0,0,(none,0,0),(none,0,0),0,0,0,0,0⟩,fun _=> rfl⟩
abbrev mmD:Mm:=⟨0,Cm.zero,0,0,0⟩
abbrev Qhd (h:Mh):Value:=mlv h.k h.a h.b h.f h.s (.slice h.l.1 h.l.2.1 h.l.2.2) (.slice h.g.1 h.g.2.1 h.g.2.2) h.pl h.st h.fa h.fp h.bk
def RiM (lo hi:Nat) (w:World) (v:Value) (m:Mm):Prop:=∃o1 c1 o2 c2,v=mlv m.k m.c.a m.c.b m.c.f m.c.s (.slice o1 m.c.l.length c1) (.slice o2 m.c.g.length c2) m.c.pl m.c.st m.fa m.fp m.bk∧RiV QbT lo hi w (.slice o1 m.c.l.length c1) m.c.l∧RiV Q6S lo hi w (.slice o2 m.c.g.length c2) m.c.g
def QM (lo hi:Nat) (w:World) (v:Value) (m:Mm):Prop:=∃v1 v2 a b a' b',v=mlv m.k m.c.a m.c.b m.c.f m.c.s v1 v2 m.c.pl m.c.st m.fa m.fp m.bk∧(lo≤a∧b≤hi∧lo≤a'∧b'≤hi)∧InL QbT 5 a b w v1 m.c.l∧InL Q6S 231 a' b' w v2 m.c.g∧(v1.ownBlock=none∨v1.ownBlock≠v2.ownBlock)
theorem RiM.rs:Stps RiM:=⟨fun ⟨o1,c1,o2,c2,e,h1,h2⟩ s hd=> ⟨o1,c1,o2,c2,e,h1.step s hd,h2.step s hd⟩⟩
theorem RiM.rm:Monos RiM:=⟨fun ⟨o1,c1,o2,c2,e,h1,h2⟩ k1 k2=> ⟨o1,c1,o2,c2,e,h1.mono k1 k2,h2.mono k1 k2⟩⟩
theorem QM.qs:Stps QM:=⟨fun ⟨v1,v2,a,b,a',b',e,k,h1,h2,h3⟩ s hd=> ⟨v1,v2,a,b,a',b',e,k,InRow.step h1 s (by omega),InRow.step h2 s (by omega),h3⟩⟩
theorem QM.qr {lo hi:Nat} {w:World} {v:Value} {m:Mm} (h:QM lo hi w v m):RiM lo hi w v m:=by
 obtain ⟨v1,v2,a,b,a',b',e,k,h1,h2,_⟩:=h
 obtain ⟨o1,c1,e1,r1⟩:=InRow.ri h1
 obtain ⟨o2,c2,e2,r2⟩:=InRow.ri h2
 subst e1 e2
 exact ⟨o1,c1,o2,c2,e,RiV.mono ⟨o1,c1,rfl,r1⟩ k.1 k.2.1,RiV.mono ⟨o2,c2,rfl,r2⟩ k.2.2.1 k.2.2.2⟩
def elM:El Mh Mm:=⟨Q0A,Qhd,RiM,QM,mmD,by decide,RiM.rs,RiM.rm,QM.qs,QM.qr⟩
theorem RiM.rd {C:Nat} {w:World} {v:Value} {m:Mm} (h:RiM 0 C w v m):RdMm C w v m:=by
 obtain ⟨o1,c1,o2,c2,e,⟨o1',c1',e1,r1⟩,⟨o2',c2',e2,r2⟩⟩:=h
 exact ⟨_,_,e,⟨o1',c1',e1,r1.rd⟩,⟨o2',c2',e2,r2.rd⟩⟩
theorem RiM.on {w w':World} {v:Value} {m:Mm} (h:RiM 0 w.heap.size w v m) (hb:Below w.heap.size w w'):RdMm w'.heap.size w' v m:=
 (RiM.rm.go (RiM.rs.go h (Stp.of (lo:=0) (hi:=0) hb) (.inl (Kcq _))) (Kaq _) hb.size).rd
theorem RiM.cells {a C:Nat} {w:World} {o:Option Addr} {n c:Nat} {xs:List Mm} (h:RiE elM a C w (.slice o n c) xs) (i:Nat) (hi:i < xs.length) {m:Mm} (hm:xs.getD i mmD=m):
  ∃b off o1 c1 o2 c2,o=some ⟨b,off,none⟩∧b < C∧w.cell? ⟨b,off+i * 12,none⟩=some (.int .i64 m.k)∧w.cell? ⟨b,off+i * 12+1,none⟩=some (.int .i64 m.c.a)∧w.cell? ⟨b,off+i * 12+2,none⟩=some (.int .i64 m.c.b)∧w.cell? ⟨b,off+i * 12+3,none⟩=some (.int .i64 m.c.f)∧w.cell? ⟨b,off+i * 12+4,none⟩=some (.int .i64 m.c.s)∧w.cell? ⟨b,off+i * 12+5,none⟩=some (.slice o1 m.c.l.length c1)∧w.cell? ⟨b,off+i * 12+6,none⟩=some (.slice o2 m.c.g.length c2)∧w.cell? ⟨b,off+i * 12+7,none⟩=some (.int .i64 m.c.pl)∧w.cell? ⟨b,off+i * 12+8,none⟩=some (.int .i64 m.c.st)∧w.cell? ⟨b,off+i * 12+9,none⟩=some (.int .i64 m.fa)∧w.cell? ⟨b,off+i * 12+10,none⟩=some (.int .i64 m.fp)∧w.cell? ⟨b,off+i * 12+11,none⟩=some (.int .i64 m.bk)∧RiM a C w (mlv m.k m.c.a m.c.b m.c.f m.c.s (.slice o1 m.c.l.length c1) (.slice o2 m.c.g.length c2) m.c.pl m.c.st m.fa m.fp m.bk) m∧RiV QbT a C w (.slice o1 m.c.l.length c1) m.c.l∧RiV Q6S a C w (.slice o2 m.c.g.length c2) m.c.g:=by
 obtain ⟨b,off,y,rfl,hb,hc,hr⟩:=h.at i hi
 rw [show xs.getD i elM.d=m from hm] at hr
 obtain ⟨o1,c1,o2,c2,e,r1,r2⟩:=hr
 have e':Value.agg #[.int .i64 y.k,.int .i64 y.a,.int .i64 y.b,.int .i64 y.f,.int .i64 y.s,.slice y.l.1 y.l.2.1 y.l.2.2,.slice y.g.1 y.g.2.1 y.g.2.2,.int .i64 y.pl,.int .i64 y.st,.int .i64 y.fa,.int .i64 y.fp,.int .i64 y.bk]=Value.agg #[.int .i64 m.k,.int .i64 m.c.a,.int .i64 m.c.b,.int .i64 m.c.f,.int .i64 m.c.s,.slice o1 m.c.l.length c1,.slice o2 m.c.g.length c2,.int .i64 m.c.pl,.int .i64 m.c.st,.int .i64 m.fa,.int .i64 m.fp,.int .i64 m.bk]:=e
 simp only [Value.agg.injEq,Array.mk.injEq,List.cons.injEq,and_true] at e'
 obtain ⟨e0,e1,e2,e3,e4,e5,e6,e7,e8,e9,e10,e11⟩:=e'
 have h0:w.cell? ⟨b,off+i * 12,none⟩=some _:=hc 0 (by decide)
 rw [e0] at h0
 have h1:w.cell? ⟨b,off+i * 12+1,none⟩=some _:=hc 1 (by decide)
 rw [e1] at h1
 have h2:w.cell? ⟨b,off+i * 12+2,none⟩=some _:=hc 2 (by decide)
 rw [e2] at h2
 have h3:w.cell? ⟨b,off+i * 12+3,none⟩=some _:=hc 3 (by decide)
 rw [e3] at h3
 have h4:w.cell? ⟨b,off+i * 12+4,none⟩=some _:=hc 4 (by decide)
 rw [e4] at h4
 have h5:w.cell? ⟨b,off+i * 12+5,none⟩=some _:=hc 5 (by decide)
 rw [e5] at h5
 have h6:w.cell? ⟨b,off+i * 12+6,none⟩=some _:=hc 6 (by decide)
 rw [e6] at h6
 have h7:w.cell? ⟨b,off+i * 12+7,none⟩=some _:=hc 7 (by decide)
 rw [e7] at h7
 have h8:w.cell? ⟨b,off+i * 12+8,none⟩=some _:=hc 8 (by decide)
 rw [e8] at h8
 have h9:w.cell? ⟨b,off+i * 12+9,none⟩=some _:=hc 9 (by decide)
 rw [e9] at h9
 have h10:w.cell? ⟨b,off+i * 12+10,none⟩=some _:=hc 10 (by decide)
 rw [e10] at h10
 have h11:w.cell? ⟨b,off+i * 12+11,none⟩=some _:=hc 11 (by decide)
 rw [e11] at h11
 exact ⟨b,off,o1,c1,o2,c2,rfl,hb,h0,h1,h2,h3,h4,h5,h6,h7,h8,h9,h10,h11,⟨o1,c1,o2,c2,rfl,r1,r2⟩,r1,r2⟩
def Q8l (xs:List Mm) (i:Nat):Nat:=(xs.getD i mmD).c.l.length+(xs.getD i mmD).c.g.length
def Qfy (xs:List Mm):Nat:=Q0G (Q8l xs) xs.length
def Qgw (xs:List Mm):Prop:=xs.length≤maxLen∧∀i,i < xs.length→(xs.getD i mmD).c.l.length≤maxLen∧(xs.getD i mmD).c.g.length≤maxLen
theorem QaV (v:Value) (xs:List Mm) (n:Int) (w:World) (hR:RiE elM 0 w.heap.size w v xs) (hl:Qgw xs) (h0:0≤n) (h1:n≤1048576):
  Calls Tryz.prog 39 #[v,.int .i64 n] w fun e w'=> (e=.returned (.int .i64 (-1))∨∃z:Int,e=.returned (.int .i64 z)∧0≤z∧z≤n∧(xs.length:Int)+(Qfy xs:Int)≤n)∧Below w.heap.size w w':=by
 obtain ⟨o,cap,ev⟩:=hR.len
 subst ev
 obtain ⟨hl0,hx⟩:=hl
 have hl':=hl0
 unfold maxLen at hl'
 by_cases h:n - xs.length < 0
 ·go_enter Tryz.func39,Tryz.ntmps39
  go_wp2
  go_ret
  exact ⟨.inl rfl,Below.refl _ _⟩
 ·go_enter Tryz.func39,Tryz.ntmps39
  go_wp2
  go_loopw [1,5] (fun n' i wr=> ∃(k:Nat) (z:Int),k≤xs.length∧i=.int .i64 (k:Int)∧n'=.int .i64 z∧0≤z∧z≤n - (xs.length:Int) - (Q0G (Q8l xs) k:Int)∧Hid (Below w.heap.size w wr))
   (fun _ i _=> xs.length - (intOf i).toNat)
  case atStart=> exact ⟨0,n - xs.length,Kcq _,rfl,rfl,by omega,by simp [Q0G],Below.refl _ _⟩
  case round=>
   obtain ⟨k,z,hk,rfl,rfl,hz0,hz1,HBr⟩:=hrel
   by_cases hlt:k < xs.length
   ·obtain ⟨m,hm⟩:∃m,xs.getD k mmD=m:=⟨_,rfl⟩
    obtain ⟨b,off,o1,c1,o2,c2,rfl,hb,p0,p1,p2,p3,p4,p5,p6,p7,p8,p9,p10,p11,_⟩:=RiM.cells hR k hlt hm
    have hxk:=hx k hlt
    rw [hm] at hxk
    have hsn:(0:Int)≤(Q0G (Q8l xs) k:Int):=by omega
    have HZ:=Q00 (Qbw m.k m.c.a m.c.b m.c.f m.c.s o1 o2 m.c.l.length c1 m.c.g.length c2 m.c.pl m.c.st m.fa m.fp m.bk z wr hxk.1 hxk.2 hz0 (by omega))
    have HSU:=Q00 (show Q0G (Q8l xs) (k+1)=Q0G (Q8l xs) k+(m.c.l.length+m.c.g.length) by rw [←hm];rfl)
    replace p0:=bCM HBr.out p0 hb
    replace p1:=bCM HBr.out p1 hb
    replace p2:=bCM HBr.out p2 hb
    replace p3:=bCM HBr.out p3 hb
    replace p4:=bCM HBr.out p4 hb
    replace p5:=bCM HBr.out p5 hb
    replace p6:=bCM HBr.out p6 hb
    replace p7:=bCM HBr.out p7 hb
    replace p8:=bCM HBr.out p8 hb
    replace p9:=bCM HBr.out p9 hb
    replace p10:=bCM HBr.out p10 hb
    replace p11:=bCM HBr.out p11 hb
    have HR:=Q00 hR
    have z1:(k:Int) < (xs.length:Int):=by omega
    clear hxk hR hx hm
    obtain ⟨q1,hq1⟩:∃q,m.c.l.length=q:=⟨_,rfl⟩
    obtain ⟨q2,hq2⟩:∃q,m.c.g.length=q:=⟨_,rfl⟩
    rw [hq1,hq2] at HZ HSU
    rw [hq1] at p5
    rw [hq2] at p6
    clear hq1 hq2
    generalize Q0G (Q8l xs) k=sk at *
    obtain ⟨y,hy⟩:∃y:Int,(if z - q1 - q2 < 0 then -1 else z - q1 - q2)=y:=⟨_,rfl⟩
    rw [hy] at HZ
    have HY:=Q00 hy
    clear hy
    go_wp2_with fail
    refine HZ.out.mono ?_
    rintro e w2 ⟨rfl,hb2⟩
    have HB2:=Q00 (HBr.out.trans (hb2.mono HBr.out.size))
    clear hb2 p0 p1 p2 p3 p4 p5 p6 p7 p8 p9 p10 p11 HZ
    by_cases hyn:y < 0
    ·go_wp2
     go_ret
     exact ⟨.inl rfl,HB2.out⟩
    ·have hyn':¬(y < 0):=hyn
     go_wp2
     go_roundw
     case rel=> exact ⟨k+1,y,by omega,by go_num,rfl,by omega,(by have:=HY.out;rw [HSU.out];split at this <;> push_cast <;> omega),HB2.out⟩
     case measure=> simp [intOf];omega
   ·have e:k=xs.length:=by omega
    subst e
    have hsz:Q0G (Q8l xs) xs.length=Qfy xs:=rfl
    rw [hsz] at hz1
    clear hsz
    go_wp2
    go_ret
    exact ⟨.inr ⟨z,rfl,hz0,by omega,by omega⟩,HBr.out⟩
theorem Q78 {α:Type} (L:Lay α) (hk:L.k=12) {v0 v1 v2 v3 v4 v5 v6 v7 v8 v9 v10 v11:Value} {a:α} (ha:L.cs a=[v0,v1,v2,v3,v4,v5,v6,v7,v8,v9,v10,v11]):∀(l:List α) (i:Nat),(((((((((((((l.flatMap L.cs).set (i * 12) v0).set (i * 12+1) v1).set (i * 12+2) v2).set (i * 12+3) v3).set (i * 12+4) v4).set (i * 12+5) v5).set (i * 12+6) v6).set (i * 12+7) v7).set (i * 12+8) v8).set (i * 12+9) v9).set (i * 12+10) v10).set (i * 12+11) v11)=(l.set i a).flatMap L.cs
 |[],i=> by simp
 |q::l,0=> by
  have hq:=(L.len q).trans hk
  match hc:L.cs q,hq with
  |[q0,q1,q2,q3,q4,q5,q6,q7,q8,q9,q10,q11],_=> simp [ha,hc]
 |q::l,i+1=> by
  have hq:=(L.len q).trans hk
  match hc:L.cs q,hq with
  |[q0,q1,q2,q3,q4,q5,q6,q7,q8,q9,q10,q11],_=>
   rw [show (i+1) * 12=i * 12+1+1+1+1+1+1+1+1+1+1+1+1 by omega]
   simp only [List.flatMap_cons,hc,List.cons_append,List.nil_append,List.set_cons_succ]
   rw [Q78 L hk ha l i]
theorem Qg8 {e:TypeId} {w wr:World} {base B g c n:Nat} {l:List Mh} {k:Nat} (h:Mh) (hg:B≤g) (hown:wr.ownsRow base e 12 (.slice (some ⟨g,0,none⟩) n c) n (l.flatMap Q0A.cs)) (hB:Below B w wr):
  ((((((((((((wr.setCell ⟨g,k * 12,none⟩ (.int .i64 h.k)).setCell ⟨g,k * 12+1,none⟩ (.int .i64 h.a)).setCell ⟨g,k * 12+2,none⟩ (.int .i64 h.b)).setCell ⟨g,k * 12+3,none⟩ (.int .i64 h.f)).setCell ⟨g,k * 12+4,none⟩ (.int .i64 h.s)).setCell ⟨g,k * 12+5,none⟩ (.slice h.l.1 h.l.2.1 h.l.2.2)).setCell ⟨g,k * 12+6,none⟩ (.slice h.g.1 h.g.2.1 h.g.2.2)).setCell ⟨g,k * 12+7,none⟩ (.int .i64 h.pl)).setCell ⟨g,k * 12+8,none⟩ (.int .i64 h.st)).setCell ⟨g,k * 12+9,none⟩ (.int .i64 h.fa)).setCell ⟨g,k * 12+10,none⟩ (.int .i64 h.fp)).setCell ⟨g,k * 12+11,none⟩ (.int .i64 h.bk)).ownsRow base e 12 (.slice (some ⟨g,0,none⟩) n c) n ((l.set k h).flatMap Q0A.cs)∧Below B w ((((((((((((wr.setCell ⟨g,k * 12,none⟩ (.int .i64 h.k)).setCell ⟨g,k * 12+1,none⟩ (.int .i64 h.a)).setCell ⟨g,k * 12+2,none⟩ (.int .i64 h.b)).setCell ⟨g,k * 12+3,none⟩ (.int .i64 h.f)).setCell ⟨g,k * 12+4,none⟩ (.int .i64 h.s)).setCell ⟨g,k * 12+5,none⟩ (.slice h.l.1 h.l.2.1 h.l.2.2)).setCell ⟨g,k * 12+6,none⟩ (.slice h.g.1 h.g.2.1 h.g.2.2)).setCell ⟨g,k * 12+7,none⟩ (.int .i64 h.pl)).setCell ⟨g,k * 12+8,none⟩ (.int .i64 h.st)).setCell ⟨g,k * 12+9,none⟩ (.int .i64 h.fa)).setCell ⟨g,k * 12+10,none⟩ (.int .i64 h.fp)).setCell ⟨g,k * 12+11,none⟩ (.int .i64 h.bk))∧Stp g (g+1) wr ((((((((((((wr.setCell ⟨g,k * 12,none⟩ (.int .i64 h.k)).setCell ⟨g,k * 12+1,none⟩ (.int .i64 h.a)).setCell ⟨g,k * 12+2,none⟩ (.int .i64 h.b)).setCell ⟨g,k * 12+3,none⟩ (.int .i64 h.f)).setCell ⟨g,k * 12+4,none⟩ (.int .i64 h.s)).setCell ⟨g,k * 12+5,none⟩ (.slice h.l.1 h.l.2.1 h.l.2.2)).setCell ⟨g,k * 12+6,none⟩ (.slice h.g.1 h.g.2.1 h.g.2.2)).setCell ⟨g,k * 12+7,none⟩ (.int .i64 h.pl)).setCell ⟨g,k * 12+8,none⟩ (.int .i64 h.st)).setCell ⟨g,k * 12+9,none⟩ (.int .i64 h.fa)).setCell ⟨g,k * 12+10,none⟩ (.int .i64 h.fp)).setCell ⟨g,k * 12+11,none⟩ (.int .i64 h.bk)):=by
 have q:=((((((((((((hown.stored (k * 12) (.int .i64 h.k)).1.stored (k * 12+1) (.int .i64 h.a)).1.stored (k * 12+2) (.int .i64 h.b)).1.stored (k * 12+3) (.int .i64 h.f)).1.stored (k * 12+4) (.int .i64 h.s)).1.stored (k * 12+5) (.slice h.l.1 h.l.2.1 h.l.2.2)).1.stored (k * 12+6) (.slice h.g.1 h.g.2.1 h.g.2.2)).1.stored (k * 12+7) (.int .i64 h.pl)).1.stored (k * 12+8) (.int .i64 h.st)).1.stored (k * 12+9) (.int .i64 h.fa)).1.stored (k * 12+10) (.int .i64 h.fp)).1.stored (k * 12+11) (.int .i64 h.bk)).1
 rw [Q78 Q0A rfl (a:=h) rfl] at q
 exact ⟨q,((((((((((((hB.setCell (p:=⟨g,k * 12,none⟩) hg _).setCell (p:=⟨g,k * 12+1,none⟩) hg _).setCell (p:=⟨g,k * 12+2,none⟩) hg _).setCell (p:=⟨g,k * 12+3,none⟩) hg _).setCell (p:=⟨g,k * 12+4,none⟩) hg _).setCell (p:=⟨g,k * 12+5,none⟩) hg _).setCell (p:=⟨g,k * 12+6,none⟩) hg _).setCell (p:=⟨g,k * 12+7,none⟩) hg _).setCell (p:=⟨g,k * 12+8,none⟩) hg _).setCell (p:=⟨g,k * 12+9,none⟩) hg _).setCell (p:=⟨g,k * 12+10,none⟩) hg _).setCell (p:=⟨g,k * 12+11,none⟩) hg _),(((((((((((((Stp.refl wr).trans (Q06 _ g (k * 12) _)).trans (Q06 _ g (k * 12+1) _)).trans (Q06 _ g (k * 12+2) _)).trans (Q06 _ g (k * 12+3) _)).trans (Q06 _ g (k * 12+4) _)).trans (Q06 _ g (k * 12+5) _)).trans (Q06 _ g (k * 12+6) _)).trans (Q06 _ g (k * 12+7) _)).trans (Q06 _ g (k * 12+8) _)).trans (Q06 _ g (k * 12+9) _)).trans (Q06 _ g (k * 12+10) _)).trans (Q06 _ g (k * 12+11) _))⟩
theorem QgE:(Tryz.prog.info? 96).map (fun i=> (i.zero,i.size,i.bytes))=some (some (.agg #[.int .i64 0,.int .i64 0,.int .i64 0,.int .i64 0,.int .i64 0,.slice none 0 0,.slice none 0 0,.int .i64 0,.int .i64 0,.int .i64 0,.int .i64 0,.int .i64 0]),12,128):=by kernel_rfl
theorem QaL (v:Value) (xs:List Mm) (w:World) (hR:RiE elM 0 w.heap.size w v xs) (hlen:xs.length≤1048576) (hx:∀i,i < xs.length→QaQ (xs.getD i mmD).c):
  Calls Tryz.prog 47 #[v] w fun e w'=> ∃v',e=.returned v'∧InE elM 96 w.heap.size w'.heap.size w' v' xs∧Below w.heap.size w w':=by
 obtain ⟨o,cap,ev⟩:=hR.len
 subst ev
 obtain ⟨i0,hi,hz0,hz1,hz2⟩:=info_parts QgE
 have HR0:=Q00 hR
 have HX:=Q00 hx
 clear hR hx
 go_enter Tryz.func47,Tryz.ntmps47
 go_wp2_with (at_make;refine wpList_make_full _ rfl _ _ 53 rfl w.heap.size 96 i0 (mlv 0 0 0 0 0 (.slice none 0 0) (.slice none 0 0) 0 0 0 0 0) 12 Tryz.underlying53 hi hz0 hz1 _ _ _ _ xs.length rfl rfl rfl rfl ?b2 ?b3 ?b4 ?_)
 case b2=> rw [hz2];omega
 case b3=> unfold maxLen;omega
 case b4=> simp
 intro w3 hown hgrow
 have HB3:=Q00 (show Below w.heap.size w w3 from (Below.refl _ _).grown hgrow (Kaq _) (fun k h=> by cases h))
 have HO3:Hid (w3.ownsRow w.heap.size 96 12 (.slice (some ⟨w.heap.size,0,none⟩) xs.length xs.length) xs.length ((Q2I Q0A [] xs.length 0).flatMap Q0A.cs)):=by
  rw [Q4Q,←Q0S Q0A (mlv 0 0 0 0 0 (.slice none 0 0) (.slice none 0 0) 0 0 0 0 0) rfl];exact hown
 have hs3:w.heap.size+1≤w3.heap.size:=(hown.lt w.heap.size rfl).2
 clear hown hgrow
 go_wp2
 go_loopw [4] (fun iv wr=> ∃(k:Nat) (hs:List Mh) (L H:Nat→Nat),k≤xs.length∧iv=.int .i64 (k:Int)∧Hid (wr.ownsRow w.heap.size 96 12 (.slice (some ⟨w.heap.size,0,none⟩) xs.length xs.length) xs.length ((Q2I Q0A hs xs.length k).flatMap Q0A.cs))∧Hid (RwE elM (xs.take k) (w.heap.size+1) wr.heap.size wr hs L H)∧Hid (Below w.heap.size w wr)∧w.heap.size+1≤wr.heap.size)
  (fun iv _=> xs.length - (intOf iv).toNat)
 case atStart=> exact ⟨0,[],fun _=> 0,fun _=> 0,Kcq _,rfl,HO3.out,by rw [List.take_zero];exact RwE.nil _ _ _ _ _ _,HB3.out,hs3⟩
 case round=>
  obtain ⟨k,hs,L,H,hk8,rfl,HO,HR,HBr,hsr⟩:=hrel
  clear HO3 HB3 hs3
  have hhl:hs.length=k:=by have h1:=HR.out.len;rw [List.length_take] at h1;omega
  have HHL:=Q00 hhl
  by_cases hlt:k < xs.length
  ·have z1:(k:Int) < (xs.length:Int):=by omega
   obtain ⟨m,hm⟩:∃m,xs.getD k mmD=m:=⟨_,rfl⟩
   have HS:=Q00 (Q3g (xs:=xs) mmD hlt)
   have hxk:=HX.out k hlt
   rw [hm] at HS hxk
   obtain ⟨b,off,o1,c1,o2,c2,rfl,hbl,p0,p1,p2,p3,p4,p5,p6,p7,p8,p9,p10,p11,rr,_⟩:=RiM.cells HR0.out k hlt hm
   have HL:=Q00 (Qe0 _ m wr (rr.on HBr.out) hxk)
   replace p0:=bCM HBr.out p0 hbl
   replace p1:=bCM HBr.out p1 hbl
   replace p2:=bCM HBr.out p2 hbl
   replace p3:=bCM HBr.out p3 hbl
   replace p4:=bCM HBr.out p4 hbl
   replace p5:=bCM HBr.out p5 hbl
   replace p6:=bCM HBr.out p6 hbl
   replace p7:=bCM HBr.out p7 hbl
   replace p8:=bCM HBr.out p8 hbl
   replace p9:=bCM HBr.out p9 hbl
   replace p10:=bCM HBr.out p10 hbl
   replace p11:=bCM HBr.out p11 hbl
   have HW:=Q00 hlt
   clear rr hm hxk hhl
   obtain ⟨q1,hq1⟩:∃q,m.c.l.length=q:=⟨_,rfl⟩
   obtain ⟨q2,hq2⟩:∃q,m.c.g.length=q:=⟨_,rfl⟩
   have HQ:=Q00 (And.intro hq1 hq2)
   rw [hq1,hq2] at HL
   rw [hq1] at p5
   rw [hq2] at p6
   clear hq1 hq2
   go_wp2_with fail
   refine HL.out.mono ?_
   rintro e w2 ⟨v4,rfl,in4,hb2⟩
   obtain ⟨vl,vg,rfl,il,ig⟩:=in4
   obtain ⟨o3,c3,rfl,_⟩:=InL.rd (L:=QbT) il
   obtain ⟨o4,c4,rfl,_⟩:=InL.rd (L:=Q6S) ig
   have HIN:Hid (QM wr.heap.size w2.heap.size w2 (mlv m.k m.c.a m.c.b m.c.f m.c.s (.slice o3 m.c.l.length c3) (.slice o4 m.c.g.length c4) m.c.pl m.c.st m.fa m.fp m.bk) m):=⟨_,_,_,_,_,_,rfl,⟨Kaq _,Kaq _,Kaq _,Kaq _⟩,il,ig,Q2x il.1 ig.1 (by decide)⟩
   have hown2:=Q0b HO.out hb2
   have hln:((Q2I Q0A hs xs.length k).flatMap Q0A.cs).length=xs.length * 12:=by rw [Q0e,Q6d hk8 HHL.out];rfl
   obtain ⟨u0,hu0⟩:∃u,w2.cell? ⟨w.heap.size,k * 12,none⟩=some u:=⟨_,(hown2.cellAt (k * 12) (by omega)).trans (List.getElem?_eq_getElem (by omega))⟩
   have hf0:=hown2.frozenAt (k * 12)
   obtain ⟨u1,hu1⟩:∃u,w2.cell? ⟨w.heap.size,k * 12+1,none⟩=some u:=⟨_,(hown2.cellAt (k * 12+1) (by omega)).trans (List.getElem?_eq_getElem (by omega))⟩
   have hf1:=hown2.frozenAt (k * 12+1)
   obtain ⟨u2,hu2⟩:∃u,w2.cell? ⟨w.heap.size,k * 12+2,none⟩=some u:=⟨_,(hown2.cellAt (k * 12+2) (by omega)).trans (List.getElem?_eq_getElem (by omega))⟩
   have hf2:=hown2.frozenAt (k * 12+2)
   obtain ⟨u3,hu3⟩:∃u,w2.cell? ⟨w.heap.size,k * 12+3,none⟩=some u:=⟨_,(hown2.cellAt (k * 12+3) (by omega)).trans (List.getElem?_eq_getElem (by omega))⟩
   have hf3:=hown2.frozenAt (k * 12+3)
   obtain ⟨u4,hu4⟩:∃u,w2.cell? ⟨w.heap.size,k * 12+4,none⟩=some u:=⟨_,(hown2.cellAt (k * 12+4) (by omega)).trans (List.getElem?_eq_getElem (by omega))⟩
   have hf4:=hown2.frozenAt (k * 12+4)
   obtain ⟨u5,hu5⟩:∃u,w2.cell? ⟨w.heap.size,k * 12+5,none⟩=some u:=⟨_,(hown2.cellAt (k * 12+5) (by omega)).trans (List.getElem?_eq_getElem (by omega))⟩
   have hf5:=hown2.frozenAt (k * 12+5)
   obtain ⟨u6,hu6⟩:∃u,w2.cell? ⟨w.heap.size,k * 12+6,none⟩=some u:=⟨_,(hown2.cellAt (k * 12+6) (by omega)).trans (List.getElem?_eq_getElem (by omega))⟩
   have hf6:=hown2.frozenAt (k * 12+6)
   obtain ⟨u7,hu7⟩:∃u,w2.cell? ⟨w.heap.size,k * 12+7,none⟩=some u:=⟨_,(hown2.cellAt (k * 12+7) (by omega)).trans (List.getElem?_eq_getElem (by omega))⟩
   have hf7:=hown2.frozenAt (k * 12+7)
   obtain ⟨u8,hu8⟩:∃u,w2.cell? ⟨w.heap.size,k * 12+8,none⟩=some u:=⟨_,(hown2.cellAt (k * 12+8) (by omega)).trans (List.getElem?_eq_getElem (by omega))⟩
   have hf8:=hown2.frozenAt (k * 12+8)
   obtain ⟨u9,hu9⟩:∃u,w2.cell? ⟨w.heap.size,k * 12+9,none⟩=some u:=⟨_,(hown2.cellAt (k * 12+9) (by omega)).trans (List.getElem?_eq_getElem (by omega))⟩
   have hf9:=hown2.frozenAt (k * 12+9)
   obtain ⟨u10,hu10⟩:∃u,w2.cell? ⟨w.heap.size,k * 12+10,none⟩=some u:=⟨_,(hown2.cellAt (k * 12+10) (by omega)).trans (List.getElem?_eq_getElem (by omega))⟩
   have hf10:=hown2.frozenAt (k * 12+10)
   obtain ⟨u11,hu11⟩:∃u,w2.cell? ⟨w.heap.size,k * 12+11,none⟩=some u:=⟨_,(hown2.cellAt (k * 12+11) (by omega)).trans (List.getElem?_eq_getElem (by omega))⟩
   have hf11:=hown2.frozenAt (k * 12+11)
   have HB2:=Q00 (HBr.out.trans (hb2.mono HBr.out.size))
   obtain ⟨L2,H2,hsn⟩:∃L2 H2,RwE elM (xs.take k++[m]) (w.heap.size+1) w2.heap.size w2 (hs++[⟨m.k,m.c.a,m.c.b,m.c.f,m.c.s,(o3,m.c.l.length,c3),(o4,m.c.g.length,c4),m.c.pl,m.c.st,m.fa,m.fp,m.bk⟩]) L2 H2:=⟨_,_,HR.out.kept hb2|>.snoc (l2:=wr.heap.size) (h2:=w2.heap.size) (y:=⟨m.k,m.c.a,m.c.b,m.c.f,m.c.s,(o3,m.c.l.length,c3),(o4,m.c.g.length,c4),m.c.pl,m.c.st,m.fa,m.fp,m.bk⟩) (x:=m) (Kaq _) (by omega) hb2.size (show elM.Q wr.heap.size w2.heap.size w2 (elM.val ⟨m.k,m.c.a,m.c.b,m.c.f,m.c.s,(o3,m.c.l.length,c3),(o4,m.c.g.length,c4),m.c.pl,m.c.st,m.fa,m.fp,m.bk⟩) m from HIN.out)⟩
   rw [←HS.out] at hsn
   have ST:=Q00 (Qg8 (k:=k) ⟨m.k,m.c.a,m.c.b,m.c.f,m.c.s,(o3,m.c.l.length,c3),(o4,m.c.g.length,c4),m.c.pl,m.c.st,m.fa,m.fp,m.bk⟩ (Kaq w.heap.size) hown2 HB2.out)
   have HF:=Q00 (Q6g (L:=Q0A) HW.out HHL.out ⟨m.k,m.c.a,m.c.b,m.c.f,m.c.s,(o3,m.c.l.length,c3),(o4,m.c.g.length,c4),m.c.pl,m.c.st,m.fa,m.fp,m.bk⟩)
   have HS2:=Q00 hsn
   have hs5:w.heap.size+1≤w2.heap.size:=by have:=hb2.size;omega
   have HQ1:=HQ.out.1
   have HQ2:=HQ.out.2
   rw [HQ1,HQ2] at ST HF HS2 ⊢
   clear HQ1 HQ2 hown2 hb2 hln hsn il ig p0 p1 p2 p3 p4 p5 p6 p7 p8 p9 p10 p11 HL
   go_wp2
   go_roundw
   case rel=>
    refine ⟨k+1,hs++[⟨m.k,m.c.a,m.c.b,m.c.f,m.c.s,(o3,q1,c3),(o4,q2,c4),m.c.pl,m.c.st,m.fa,m.fp,m.bk⟩],L2,H2,by omega,by go_num,(by have h:=ST.out.1;rw [HF.out] at h;exact h), ?_,ST.out.2.1,by simpa using hs5⟩
    exact RwE.mono (HS2.out.step ST.out.2.2 (fun i hi=> .inl (HS2.out.bd i hi).1)) (Kaq _) (by simp)
   case measure=> simp [intOf];omega
  ·have e:k=xs.length:=by omega
   subst e
   go_wp2
   go_ret
   have h2:=HR.out
   rw [List.take_length] at h2
   exact ⟨_,rfl,InE.filled HO.out h2 (by omega),HBr.out⟩
theorem Q95 (v1 v2:Value) (xs:List Mm) (w:World) (h1:RiE elM 0 w.heap.size w v1 xs) (h2:RiE elM 0 w.heap.size w v2 xs) (hl:xs.length≤1048576) (hx:∀i,i < xs.length→(xs.getD i mmD).c.l.length≤1048576∧(xs.getD i mmD).c.g.length≤1048576):
  Calls Tryz.prog 52 #[v1,v2] w fun e w'=> e=.returned (.bool true)∧Below w.heap.size w w':=by
 obtain ⟨oa,ca,ev1⟩:=h1.len
 obtain ⟨ob,cb,ev2⟩:=h2.len
 subst ev1 ev2
 go_enter Tryz.func52,Tryz.ntmps52
 go_wp2
 go_loopw [5] (fun i wr=> ∃k:Nat,k≤xs.length∧i=.int .i64 k∧Hid (Below w.heap.size w wr))
  (fun i _=> xs.length - (intOf i).toNat)
 case atStart=> exact ⟨0,Kcq _,rfl,Below.refl _ _⟩
 case round=>
  obtain ⟨k,hk,rfl,HB⟩:=hrel
  by_cases hlt:k < xs.length
  ·have z1:(k:Int) < (xs.length:Int):=by omega
   obtain ⟨m,hm⟩:∃m,xs.getD k mmD=m:=⟨_,rfl⟩
   have hxk:=hx k hlt
   rw [hm] at hxk
   obtain ⟨b1,off1,o1,c1,o2,c2,rfl,hb1,p0,p1,p2,p3,p4,p5,p6,p7,p8,p9,p10,p11,g1,_⟩:=RiM.cells h1 k hlt hm
   obtain ⟨b2,off2,o3,c3,o4,c4,rfl,hb2,r0,r1,r2,r3,r4,r5,r6,r7,r8,r9,r10,r11,g2,_⟩:=RiM.cells h2 k hlt hm
   have HE:Hid (∀W,Below w.heap.size w W→Calls Tryz.prog 109 #[mlv m.k m.c.a m.c.b m.c.f m.c.s (.slice o1 m.c.l.length c1) (.slice o2 m.c.g.length c2) m.c.pl m.c.st m.fa m.fp m.bk,mlv m.k m.c.a m.c.b m.c.f m.c.s (.slice o3 m.c.l.length c3) (.slice o4 m.c.g.length c4) m.c.pl m.c.st m.fa m.fp m.bk] W fun e w'=> e=.returned (.bool true)∧Below W.heap.size W w'):=fun W hW=> Qdn _ _ m W (g1.on hW) (g2.on hW) hxk.1 hxk.2
   replace p0:=bCM HB.out p0 hb1
   replace p1:=bCM HB.out p1 hb1
   replace p2:=bCM HB.out p2 hb1
   replace p3:=bCM HB.out p3 hb1
   replace p4:=bCM HB.out p4 hb1
   replace p5:=bCM HB.out p5 hb1
   replace p6:=bCM HB.out p6 hb1
   replace p7:=bCM HB.out p7 hb1
   replace p8:=bCM HB.out p8 hb1
   replace p9:=bCM HB.out p9 hb1
   replace p10:=bCM HB.out p10 hb1
   replace p11:=bCM HB.out p11 hb1
   replace r0:=bCM HB.out r0 hb2
   replace r1:=bCM HB.out r1 hb2
   replace r2:=bCM HB.out r2 hb2
   replace r3:=bCM HB.out r3 hb2
   replace r4:=bCM HB.out r4 hb2
   replace r5:=bCM HB.out r5 hb2
   replace r6:=bCM HB.out r6 hb2
   replace r7:=bCM HB.out r7 hb2
   replace r8:=bCM HB.out r8 hb2
   replace r9:=bCM HB.out r9 hb2
   replace r10:=bCM HB.out r10 hb2
   replace r11:=bCM HB.out r11 hb2
   have H1:=Q00 h1
   have H2:=Q00 h2
   have hs1:b1 < wr.heap.size:=Kbq hb1 HB.out.size
   have hs2:b2 < wr.heap.size:=Kbq hb2 HB.out.size
   obtain ⟨q1,hq1⟩:∃q,m.c.l.length=q:=⟨_,rfl⟩
   obtain ⟨q2,hq2⟩:∃q,m.c.g.length=q:=⟨_,rfl⟩
   rw [hq1,hq2] at HE
   rw [hq1] at p5 r5
   rw [hq2] at p6 r6
   clear hq1 hq2 g1 g2 h1 h2 hm hxk hx
   go_wp2
   go_region_held3 (fun w'=> w'.cell? ⟨b1,off1+k * 12,none⟩=some (.int .i64 m.k)∧w'.cell? ⟨b1,off1+k * 12+1,none⟩=some (.int .i64 m.c.a)∧w'.cell? ⟨b1,off1+k * 12+2,none⟩=some (.int .i64 m.c.b)∧w'.cell? ⟨b1,off1+k * 12+3,none⟩=some (.int .i64 m.c.f)∧w'.cell? ⟨b1,off1+k * 12+4,none⟩=some (.int .i64 m.c.s)∧w'.cell? ⟨b1,off1+k * 12+5,none⟩=some (.slice o1 q1 c1)∧w'.cell? ⟨b1,off1+k * 12+6,none⟩=some (.slice o2 q2 c2)∧w'.cell? ⟨b1,off1+k * 12+7,none⟩=some (.int .i64 m.c.pl)∧w'.cell? ⟨b1,off1+k * 12+8,none⟩=some (.int .i64 m.c.st)∧w'.cell? ⟨b1,off1+k * 12+9,none⟩=some (.int .i64 m.fa)∧w'.cell? ⟨b1,off1+k * 12+10,none⟩=some (.int .i64 m.fp)∧w'.cell? ⟨b1,off1+k * 12+11,none⟩=some (.int .i64 m.bk)∧w'.cell? ⟨b2,off2+k * 12,none⟩=some (.int .i64 m.k)∧w'.cell? ⟨b2,off2+k * 12+1,none⟩=some (.int .i64 m.c.a)∧w'.cell? ⟨b2,off2+k * 12+2,none⟩=some (.int .i64 m.c.b)∧w'.cell? ⟨b2,off2+k * 12+3,none⟩=some (.int .i64 m.c.f)∧w'.cell? ⟨b2,off2+k * 12+4,none⟩=some (.int .i64 m.c.s)∧w'.cell? ⟨b2,off2+k * 12+5,none⟩=some (.slice o3 q1 c3)∧w'.cell? ⟨b2,off2+k * 12+6,none⟩=some (.slice o4 q2 c4)∧w'.cell? ⟨b2,off2+k * 12+7,none⟩=some (.int .i64 m.c.pl)∧w'.cell? ⟨b2,off2+k * 12+8,none⟩=some (.int .i64 m.c.st)∧w'.cell? ⟨b2,off2+k * 12+9,none⟩=some (.int .i64 m.fa)∧w'.cell? ⟨b2,off2+k * 12+10,none⟩=some (.int .i64 m.fp)∧w'.cell? ⟨b2,off2+k * 12+11,none⟩=some (.int .i64 m.bk)) (first|exact ⟨p0,p1,p2,p3,p4,p5,p6,p7,p8,p9,p10,p11,r0,r1,r2,r3,r4,r5,r6,r7,r8,r9,r10,r11⟩) (first|(go_at_call 109;refine (HE.out _ (Below.drew HB.out)).mono ?_;rintro e w2 ⟨rfl,hb3⟩;replace hb3:Below wr.heap.size wr w2:=(Below.drew (Below.refl _ _)).trans hb3;have p0:=bCM hb3 p0 hs1;have p1:=bCM hb3 p1 hs1;have p2:=bCM hb3 p2 hs1;have p3:=bCM hb3 p3 hs1;have p4:=bCM hb3 p4 hs1;have p5:=bCM hb3 p5 hs1;have p6:=bCM hb3 p6 hs1;have p7:=bCM hb3 p7 hs1;have p8:=bCM hb3 p8 hs1;have p9:=bCM hb3 p9 hs1;have p10:=bCM hb3 p10 hs1;have p11:=bCM hb3 p11 hs1;have r0:=bCM hb3 r0 hs2;have r1:=bCM hb3 r1 hs2;have r2:=bCM hb3 r2 hs2;have r3:=bCM hb3 r3 hs2;have r4:=bCM hb3 r4 hs2;have r5:=bCM hb3 r5 hs2;have r6:=bCM hb3 r6 hs2;have r7:=bCM hb3 r7 hs2;have r8:=bCM hb3 r8 hs2;have r9:=bCM hb3 r9 hs2;have r10:=bCM hb3 r10 hs2;have r11:=bCM hb3 r11 hs2))
   have HB3:=Q00 (HB.out.trans (hb3.mono HB.out.size))
   clear hb3 p0 p1 p2 p3 p4 p5 p6 p7 p8 p9 p10 p11 r0 r1 r2 r3 r4 r5 r6 r7 r8 r9 r10 r11
   go_wp2
   go_roundw
   case rel=> exact ⟨k+1,by omega,by go_num,HB3.out⟩
   case measure=> simp [intOf];omega
  ·have e:k=xs.length:=by omega
   subst e
   go_wp2
   go_ret
   exact ⟨rfl,HB.out⟩
def QgO (kk:Int) (m:Mm):Mm:=⟨kk,⟨kk+1,kk+1+1,kk+1+1+1,kk+1+1+1+1,Q4D (kk+1+1+1+1+1) m.c.l.length,mkL Q7z 2 (kk+1+1+1+1+1+(m.c.l.length:Int)) m.c.g.length,kk+1+1+1+1+1+(m.c.l.length:Int)+2 * (m.c.g.length:Int),kk+1+1+1+1+1+(m.c.l.length:Int)+2 * (m.c.g.length:Int)+1⟩,kk+1+1+1+1+1+(m.c.l.length:Int)+2 * (m.c.g.length:Int)+1+1,kk+1+1+1+1+1+(m.c.l.length:Int)+2 * (m.c.g.length:Int)+1+1+1,kk+1+1+1+1+1+(m.c.l.length:Int)+2 * (m.c.g.length:Int)+1+1+1+1⟩
def nM (xs:List Mm) (i:Nat):Nat:=10+((xs.getD i mmD).c.l.length+2 * (xs.getD i mmD).c.g.length)
def nMs (xs:List Mm):Nat:=Q0G (nM xs) xs.length
def Qfh (k:Int) (xs:List Mm) (j:Nat):Mm:=QgO (k+(Q0G (nM xs) j:Int)) (xs.getD j mmD)
def Qgb (k:Int) (xs:List Mm):List Mm:=(List.range xs.length).map (Qfh k xs)
theorem QeW (k:Int) (xs:List Mm):(Qgb k xs).length=xs.length:=by simp [Qgb]
theorem Qge (xs:List Mm) (i:Nat):Q0G (nM xs) i≤10 * i+2 * Q0G (Q8l xs) i:=by
 induction i with
 |zero=> simp [Q0G]
 |succ i ih=>
  have h1:Q0G (nM xs) (i+1)=Q0G (nM xs) i+nM xs i:=rfl
  have h2:Q0G (Q8l xs) (i+1)=Q0G (Q8l xs) i+Q8l xs i:=rfl
  rw [h1,h2]
  unfold nM Q8l at *
  omega
theorem Q7C (lo hi:Nat) (v:Value) (xs:List Mm) (k:Int) (w:World) (hv:InE elM 96 lo hi w v xs) (h0:0≤k) (h1:k≤100000000) (hn:xs.length≤1048576) (hz:Qfy xs≤1048576):
  Calls Tryz.prog 61 #[v,.int .i64 k] w fun e w'=> e=.returned (.int .i64 (k+(nMs xs:Int)))∧InE elM 96 lo hi w' v (Qgb k xs)∧Stp lo hi w w':=by
 obtain ⟨hs0,L,H,hrow,hrw,hout⟩:=hv
 rcases hrow.1.2 with ⟨rfl,h2⟩|⟨g,cap,cur,rfl,hg,_⟩
 ·have e:xs=[]:=List.eq_nil_of_length_eq_zero (by rw [←hrw.len];exact h2)
  subst e
  have H9:=Q00 (And.intro hrow (And.intro hrw hout))
  have hl0:hs0.length=0:=h2
  clear hrow hrw hout h2
  go_enter Tryz.func61,Tryz.ntmps61
  go_wp2
  refine wp_loop_rounds 1 ?_
  rw [rounds_succ]
  go_wp2
  go_ret
  exact ⟨by simp [nMs,Q0G],⟨hs0,L,H,H9.out.1,H9.out.2.1,fun i hi=> absurd hi (Nat.not_lt_zero _)⟩,Stp.refl _⟩
 ·have hlen:=hrw.len
  have hgw:g < w.heap.size:=(hrow.1.lt g rfl).2
  have hgl:lo≤g:=(hrow.1.lt g rfl).1
  have hgh:g < hi:=hrow.2 g rfl
  have HOUT:=Q00 (fun i hi=> hout i hi g rfl)
  have HSEP:=Q00 hrw.sep
  have HBD:=Q00 hrw.bd
  have HOB:Hid (Qbl (.slice (some ⟨g,0,none⟩) xs.length cap) xs.length L H):=fun i hi b e=> hout i hi b e
  have HR0:Hid (InL Q0A 96 lo hi w (.slice (some ⟨g,0,none⟩) xs.length cap) hs0):=by rw [←hlen];exact hrow
  have HW0:Hid (RwE elM (Q1w (Qfh k xs) xs mmD 0) lo hi w hs0 L H):=by rw [Q3k];exact hrw
  rw [hlen]
  clear hrow hrw hout hlen hg
  go_enter Tryz.func61,Tryz.ntmps61
  go_wp2
  go_loopw [1,5] (fun q j wr=> ∃(i:Nat) (hs:List Mh),i≤xs.length∧j=.int .i64 (i:Int)∧q=.int .i64 (k+(Q0G (nM xs) i:Int))∧Hid (InL Q0A 96 lo hi wr (.slice (some ⟨g,0,none⟩) xs.length cap) hs)∧Hid (RwE elM (Q1w (Qfh k xs) xs mmD i) lo hi wr hs L H)∧Hid (Stp lo hi w wr))
   (fun _ j _=> xs.length - (intOf j).toNat)
  case atStart=> exact ⟨0,hs0,Kcq _,rfl,by simp [Q0G],HR0.out,HW0.out,Stp.refl _⟩
  case round=>
   obtain ⟨i,hs,hi9,rfl,rfl,HROW,HRW,HST⟩:=hrel
   clear HR0 HW0
   by_cases hlt:i < xs.length
   ·skip
    have hsl:hs.length=xs.length:=by have:=HRW.out.len;rw [Q0L] at this;exact this
    obtain ⟨m,hm⟩:∃m,xs.getD i mmD=m:=⟨_,rfl⟩
    obtain ⟨y,hy⟩:∃y,hs.getD i Q0A.d=y:=⟨_,rfl⟩
    have HY:=Q00 hy
    have hq:=HRW.out.row i (by rw [Q0L];exact hlt)
    rw [show (Q1w (Qfh k xs) xs mmD i).getD i elM.d=m from (Q4f _ _ _ _ hlt).trans hm,show elM.L.d=Q0A.d from rfl,hy] at hq
    obtain ⟨v1,v2,a,b,a2,b2,e,kb,ic,it,hne⟩:=hq
    have e':Value.agg #[.int .i64 y.k,.int .i64 y.a,.int .i64 y.b,.int .i64 y.f,.int .i64 y.s,.slice y.l.1 y.l.2.1 y.l.2.2,.slice y.g.1 y.g.2.1 y.g.2.2,.int .i64 y.pl,.int .i64 y.st,.int .i64 y.fa,.int .i64 y.fp,.int .i64 y.bk]=Value.agg #[.int .i64 m.k,.int .i64 m.c.a,.int .i64 m.c.b,.int .i64 m.c.f,.int .i64 m.c.s,v1,v2,.int .i64 m.c.pl,.int .i64 m.c.st,.int .i64 m.fa,.int .i64 m.fp,.int .i64 m.bk]:=e
    simp only [Value.agg.injEq,Array.mk.injEq,List.cons.injEq,and_true] at e'
    obtain ⟨_,_,_,_,_,e1,e2,_,_,_,_,_⟩:=e'
    have hmk:Hid (Qfh k xs i=QgO (k+(Q0G (nM xs) i:Int)) m):=by unfold Hid Qfh;rw [hm]
    have HSU:=Q00 (show (Q0G (nM xs) (i+1):Int)=(Q0G (nM xs) i:Int)+(10+(m.c.l.length:Int)+2 * (m.c.g.length:Int)) by rw [show Q0G (nM xs) (i+1)=Q0G (nM xs) i+nM xs i from rfl];unfold nM;rw [hm];push_cast;omega)
    have hbd:=Qge xs i
    have hle:=Q60 (Q8l xs) (Nat.le_of_lt hlt)
    have hat:=Q3f (Q8l xs) hlt
    rw [show Q8l xs i=m.c.l.length+m.c.g.length by unfold Q8l;rw [hm]] at hat
    have hszx:Q0G (Q8l xs) xs.length≤1048576:=hz
    obtain ⟨kk,hkk⟩:∃q:Int,k+(Q0G (nM xs) i:Int)=q:=⟨_,rfl⟩
    have hk0:0≤kk∧kk≤200000000:=by omega
    have hl1:m.c.l.length≤1048576:=by omega
    have hl2:m.c.g.length≤1048576:=by omega
    have HKK:Hid (k+(Q0G (nM xs) (i+1):Int)=kk+1+1+1+1+1+(m.c.l.length:Int)+2 * (m.c.g.length:Int)+1+1+1+1+1):=by unfold Hid;rw [HSU.out];omega
    rw [hkk] at hmk ⊢
    clear hkk HSU hbd hle hat hszx hm hy e
    have z1:(i:Int) < (xs.length:Int):=by omega
    have pf0:wr.frozen? ⟨g,i * 12,none⟩=false:=InL.frozE (HROW.out) (i * 12)
    obtain ⟨pu0,ph0⟩:∃z,wr.cell? ⟨g,i * 12,none⟩=some z:=InL.someE (L:=Q0A) (hs) (HROW.out) i 0 (by (try simp) <;> omega) (by decide)
    have pr0:InL Q0A 96 lo hi (wr.setCell ⟨g,i * 12,none⟩ (.int .i64 (kk))) (.slice (some ⟨g,0,none⟩) xs.length cap) (hs.set i { y with k:=kk }):=by
     have h:=InL.putE (L:=Q0A) (hs) (HROW.out) i 0 (by (try simp) <;> omega) (by decide) (.int .i64 (kk)) { y with k:=kk } (by rw [HY.out];rfl)
     exact h
    have pf1:(wr.setCell ⟨g,i * 12,none⟩ (.int .i64 (kk))).frozen? ⟨g,i * 12+1,none⟩=false:=InL.frozE (pr0) (i * 12+1)
    obtain ⟨pu1,ph1⟩:∃z,(wr.setCell ⟨g,i * 12,none⟩ (.int .i64 (kk))).cell? ⟨g,i * 12+1,none⟩=some z:=InL.someE (L:=Q0A) (hs.set i { y with k:=kk }) (pr0) i 1 (by (try simp) <;> omega) (by decide)
    have pr1:InL Q0A 96 lo hi ((wr.setCell ⟨g,i * 12,none⟩ (.int .i64 (kk))).setCell ⟨g,i * 12+1,none⟩ (.int .i64 (kk+1))) (.slice (some ⟨g,0,none⟩) xs.length cap) (hs.set i { y with k:=kk,a:=kk+1 }):=by
     have h:=InL.putE (L:=Q0A) (hs.set i { y with k:=kk }) (pr0) i 1 (by (try simp) <;> omega) (by decide) (.int .i64 (kk+1)) { y with k:=kk,a:=kk+1 } (by rw [Q0M (by omega)];rfl)
     rw [List.set_set] at h
     exact h
    have pf2:((wr.setCell ⟨g,i * 12,none⟩ (.int .i64 (kk))).setCell ⟨g,i * 12+1,none⟩ (.int .i64 (kk+1))).frozen? ⟨g,i * 12+2,none⟩=false:=InL.frozE (pr1) (i * 12+2)
    obtain ⟨pu2,ph2⟩:∃z,((wr.setCell ⟨g,i * 12,none⟩ (.int .i64 (kk))).setCell ⟨g,i * 12+1,none⟩ (.int .i64 (kk+1))).cell? ⟨g,i * 12+2,none⟩=some z:=InL.someE (L:=Q0A) (hs.set i { y with k:=kk,a:=kk+1 }) (pr1) i 2 (by (try simp) <;> omega) (by decide)
    have pr2:InL Q0A 96 lo hi (((wr.setCell ⟨g,i * 12,none⟩ (.int .i64 (kk))).setCell ⟨g,i * 12+1,none⟩ (.int .i64 (kk+1))).setCell ⟨g,i * 12+2,none⟩ (.int .i64 (kk+1+1))) (.slice (some ⟨g,0,none⟩) xs.length cap) (hs.set i { y with k:=kk,a:=kk+1,b:=kk+1+1 }):=by
     have h:=InL.putE (L:=Q0A) (hs.set i { y with k:=kk,a:=kk+1 }) (pr1) i 2 (by (try simp) <;> omega) (by decide) (.int .i64 (kk+1+1)) { y with k:=kk,a:=kk+1,b:=kk+1+1 } (by rw [Q0M (by omega)];rfl)
     rw [List.set_set] at h
     exact h
    have pf3:(((wr.setCell ⟨g,i * 12,none⟩ (.int .i64 (kk))).setCell ⟨g,i * 12+1,none⟩ (.int .i64 (kk+1))).setCell ⟨g,i * 12+2,none⟩ (.int .i64 (kk+1+1))).frozen? ⟨g,i * 12+3,none⟩=false:=InL.frozE (pr2) (i * 12+3)
    obtain ⟨pu3,ph3⟩:∃z,(((wr.setCell ⟨g,i * 12,none⟩ (.int .i64 (kk))).setCell ⟨g,i * 12+1,none⟩ (.int .i64 (kk+1))).setCell ⟨g,i * 12+2,none⟩ (.int .i64 (kk+1+1))).cell? ⟨g,i * 12+3,none⟩=some z:=InL.someE (L:=Q0A) (hs.set i { y with k:=kk,a:=kk+1,b:=kk+1+1 }) (pr2) i 3 (by (try simp) <;> omega) (by decide)
    have pr3:InL Q0A 96 lo hi ((((wr.setCell ⟨g,i * 12,none⟩ (.int .i64 (kk))).setCell ⟨g,i * 12+1,none⟩ (.int .i64 (kk+1))).setCell ⟨g,i * 12+2,none⟩ (.int .i64 (kk+1+1))).setCell ⟨g,i * 12+3,none⟩ (.int .i64 (kk+1+1+1))) (.slice (some ⟨g,0,none⟩) xs.length cap) (hs.set i { y with k:=kk,a:=kk+1,b:=kk+1+1,f:=kk+1+1+1 }):=by
     have h:=InL.putE (L:=Q0A) (hs.set i { y with k:=kk,a:=kk+1,b:=kk+1+1 }) (pr2) i 3 (by (try simp) <;> omega) (by decide) (.int .i64 (kk+1+1+1)) { y with k:=kk,a:=kk+1,b:=kk+1+1,f:=kk+1+1+1 } (by rw [Q0M (by omega)];rfl)
     rw [List.set_set] at h
     exact h
    have pf4:((((wr.setCell ⟨g,i * 12,none⟩ (.int .i64 (kk))).setCell ⟨g,i * 12+1,none⟩ (.int .i64 (kk+1))).setCell ⟨g,i * 12+2,none⟩ (.int .i64 (kk+1+1))).setCell ⟨g,i * 12+3,none⟩ (.int .i64 (kk+1+1+1))).frozen? ⟨g,i * 12+4,none⟩=false:=InL.frozE (pr3) (i * 12+4)
    obtain ⟨pu4,ph4⟩:∃z,((((wr.setCell ⟨g,i * 12,none⟩ (.int .i64 (kk))).setCell ⟨g,i * 12+1,none⟩ (.int .i64 (kk+1))).setCell ⟨g,i * 12+2,none⟩ (.int .i64 (kk+1+1))).setCell ⟨g,i * 12+3,none⟩ (.int .i64 (kk+1+1+1))).cell? ⟨g,i * 12+4,none⟩=some z:=InL.someE (L:=Q0A) (hs.set i { y with k:=kk,a:=kk+1,b:=kk+1+1,f:=kk+1+1+1 }) (pr3) i 4 (by (try simp) <;> omega) (by decide)
    have pr4:InL Q0A 96 lo hi (((((wr.setCell ⟨g,i * 12,none⟩ (.int .i64 (kk))).setCell ⟨g,i * 12+1,none⟩ (.int .i64 (kk+1))).setCell ⟨g,i * 12+2,none⟩ (.int .i64 (kk+1+1))).setCell ⟨g,i * 12+3,none⟩ (.int .i64 (kk+1+1+1))).setCell ⟨g,i * 12+4,none⟩ (.int .i64 (kk+1+1+1+1))) (.slice (some ⟨g,0,none⟩) xs.length cap) (hs.set i { y with k:=kk,a:=kk+1,b:=kk+1+1,f:=kk+1+1+1,s:=kk+1+1+1+1 }):=by
     have h:=InL.putE (L:=Q0A) (hs.set i { y with k:=kk,a:=kk+1,b:=kk+1+1,f:=kk+1+1+1 }) (pr3) i 4 (by (try simp) <;> omega) (by decide) (.int .i64 (kk+1+1+1+1)) { y with k:=kk,a:=kk+1,b:=kk+1+1,f:=kk+1+1+1,s:=kk+1+1+1+1 } (by rw [Q0M (by omega)];rfl)
     rw [List.set_set] at h
     exact h
    have c1:(((((wr.setCell ⟨g,i * 12,none⟩ (.int .i64 (kk))).setCell ⟨g,i * 12+1,none⟩ (.int .i64 (kk+1))).setCell ⟨g,i * 12+2,none⟩ (.int .i64 (kk+1+1))).setCell ⟨g,i * 12+3,none⟩ (.int .i64 (kk+1+1+1))).setCell ⟨g,i * 12+4,none⟩ (.int .i64 (kk+1+1+1+1))).cell? ⟨g,i * 12+5,none⟩=some v1:=by
     have h:=InL.cellE (L:=Q0A) (hs.set i { y with k:=kk,a:=kk+1,b:=kk+1+1,f:=kk+1+1+1,s:=kk+1+1+1+1 }) (pr4) i 5 (by (try simp) <;> omega) (by decide)
     rw [Q0M (by omega)] at h
     rw [←e1]
     exact h
    have c2:(((((wr.setCell ⟨g,i * 12,none⟩ (.int .i64 (kk))).setCell ⟨g,i * 12+1,none⟩ (.int .i64 (kk+1))).setCell ⟨g,i * 12+2,none⟩ (.int .i64 (kk+1+1))).setCell ⟨g,i * 12+3,none⟩ (.int .i64 (kk+1+1+1))).setCell ⟨g,i * 12+4,none⟩ (.int .i64 (kk+1+1+1+1))).cell? ⟨g,i * 12+6,none⟩=some v2:=by
     have h:=InL.cellE (L:=Q0A) (hs.set i { y with k:=kk,a:=kk+1,b:=kk+1+1,f:=kk+1+1+1,s:=kk+1+1+1+1 }) (pr4) i 6 (by (try simp) <;> omega) (by decide)
     rw [Q0M (by omega)] at h
     rw [←e2]
     exact h
    have HPR:=Q00 pr4
    have HP:=Q00 (show Stp g (g+1) wr (((((wr.setCell ⟨g,i * 12,none⟩ (.int .i64 (kk))).setCell ⟨g,i * 12+1,none⟩ (.int .i64 (kk+1))).setCell ⟨g,i * 12+2,none⟩ (.int .i64 (kk+1+1))).setCell ⟨g,i * 12+3,none⟩ (.int .i64 (kk+1+1+1))).setCell ⟨g,i * 12+4,none⟩ (.int .i64 (kk+1+1+1+1))) from ((((((Stp.refl wr).trans (Q06 _ g _ _)).trans (Q06 _ g _ _)).trans (Q06 _ g _ _)).trans (Q06 _ g _ _)).trans (Q06 _ g _ _)))
    have hq1:∀j,j < xs.length→g+1≤L j∨H j≤g:=fun j hj=> by have:=HOUT.out j hj;omega
    have HQ1:=Q00 hq1
    have HRW1:=Q00 (HRW.out.step HP.out (fun j hj=> hq1 j (by rw [Q0L] at hj;exact hj)))
    have hgi:=hq1 i hlt
    have HIC:=Q00 (InRow.step ic HP.out (by omega))
    have HIT:=Q00 (InRow.step it HP.out (by omega))
    obtain ⟨o1,cc1,ev1,_⟩:=InRow.ri HIC.out
    obtain ⟨o2,cc2,ev2,_⟩:=InRow.ri HIT.out
    have HM1:=Q00 (Q8m a v1 m.c.l (kk+1+1+1+1+1) _ (Q46.2 HIC.out.1) (by omega) (by omega) hl1)
    have HNE:=Q00 hne
    have HE12:=Q00 (And.intro e1 e2)
    have HEV:=Q00 (And.intro ev1 ev2)
    have hgw4:g < wr.heap.size:=Kbq hgw HST.out.size
    rw [ev1] at c1
    have HC2:=Q00 c2
    clear ic it hne hq1 e1 e2 c2 pr0 pr1 pr2 pr3 pr4
    go_wp2_with fail
    rw [←HEV.out.1]
    refine HM1.out.mono ?_
    rintro e w4 ⟨rfl,ho1,hg1⟩
    have hlo1:∀q,v1.ownBlock=some q→L i≤q∧q < H i:=fun q hq=> by have h1:=(HIC.out.1.lt q hq).1;have h2:=HIC.out.2 q hq;omega
    have hlo2:∀q,v2.ownBlock=some q→L i≤q∧q < H i:=fun q hq=> by have h1:=(HIT.out.1.lt q hq).1;have h2:=HIT.out.2 q hq;omega
    have s1:Stp (L i) (H i) (((((wr.setCell ⟨g,i * 12,none⟩ (.int .i64 (kk))).setCell ⟨g,i * 12+1,none⟩ (.int .i64 (kk+1))).setCell ⟨g,i * 12+2,none⟩ (.int .i64 (kk+1+1))).setCell ⟨g,i * 12+3,none⟩ (.int .i64 (kk+1+1+1))).setCell ⟨g,i * 12+4,none⟩ (.int .i64 (kk+1+1+1+1))) w4:=Stp.grown hg1 hlo1
    have hgo:=HOUT.out i hlt
    have HR4:=Q00 (InRow.steps HPR.out s1 (fun q e=> by have e:=Option.some.inj e;simp at e;omega))
    have HIT4:=Q00 (InRow.kept HIT.out hg1 (Qbf HNE.out))
    have c3:w4.cell? ⟨g,i * 12+6,none⟩=some v2:=s1.cellP HC2.out hgo
    rw [HEV.out.2] at c3
    have S1:=Q00 s1
    have HO1:=Q00 ho1
    have HM2:=Q00 (Q98 a2 v2 m.c.g (kk+1+1+1+1+1+(m.c.l.length:Int)) _ HIT4.out.1 (by omega) (by omega) hl2)
    have hgw5:g < w4.heap.size:=Kbq (by simpa using hgw4) s1.size
    clear c1 ho1 hg1 s1 HM1 HC2 pf0 ph0 pf1 ph1 pf2 ph2 pf3 ph3 pf4 ph4
    go_wp2_with fail
    rw [←HEV.out.2]
    refine HM2.out.mono ?_
    rintro e w5 ⟨rfl,ho2,hg2⟩
    have s2:Stp (L i) (H i) w4 w5:=Stp.grown hg2 hlo2
    have HO1b:=Q00 (World.ownsRow.kept HO1.out hg2 HNE.out)
    have HO2:=Q00 ho2
    have HR5:=Q00 (InRow.steps HR4.out s2 (fun q e=> by have e:=Option.some.inj e;simp at e;omega))
    have S12:=Q00 (S1.out.trans s2)
    clear c3 ho2 hg2 s2 HM2 HO1
    obtain ⟨yb,hyb⟩:∃yb,{ y with k:=kk,a:=kk+1,b:=kk+1+1,f:=kk+1+1+1,s:=kk+1+1+1+1 }=yb:=⟨_,rfl⟩
    obtain ⟨hsb,hhb⟩:∃l,hs.set i yb=l:=⟨_,rfl⟩
    have HYB:Hid (hsb.getD i Q0A.d=yb):=by unfold Hid;rw [←hhb];exact Q0M (by omega)
    have hsbl:hsb.length=xs.length:=by rw [←hhb];simp;omega
    have HR5b:Hid (InL Q0A 96 lo hi w5 (.slice (some ⟨g,0,none⟩) xs.length cap) hsb):=by have h:=HR5.out;rw [hyb,hhb] at h;exact h
    have HHB:=Q00 (And.intro hyb hhb)
    clear hyb hhb
    have qf0:w5.frozen? ⟨g,i * 12+7,none⟩=false:=InL.frozE (HR5b.out) (i * 12+7)
    obtain ⟨qu0,qh0⟩:∃z,w5.cell? ⟨g,i * 12+7,none⟩=some z:=InL.someE (L:=Q0A) (hsb) (HR5b.out) i 7 (by (try simp) <;> omega) (by decide)
    have qr0:InL Q0A 96 lo hi (w5.setCell ⟨g,i * 12+7,none⟩ (.int .i64 (kk+1+1+1+1+1+(m.c.l.length:Int)+2 * (m.c.g.length:Int)))) (.slice (some ⟨g,0,none⟩) xs.length cap) (hsb.set i { yb with pl:=kk+1+1+1+1+1+(m.c.l.length:Int)+2 * (m.c.g.length:Int) }):=by
     have h:=InL.putE (L:=Q0A) (hsb) (HR5b.out) i 7 (by (try simp) <;> omega) (by decide) (.int .i64 (kk+1+1+1+1+1+(m.c.l.length:Int)+2 * (m.c.g.length:Int))) { yb with pl:=kk+1+1+1+1+1+(m.c.l.length:Int)+2 * (m.c.g.length:Int) } (by rw [HYB.out];rfl)
     exact h
    have qf1:(w5.setCell ⟨g,i * 12+7,none⟩ (.int .i64 (kk+1+1+1+1+1+(m.c.l.length:Int)+2 * (m.c.g.length:Int)))).frozen? ⟨g,i * 12+8,none⟩=false:=InL.frozE (qr0) (i * 12+8)
    obtain ⟨qu1,qh1⟩:∃z,(w5.setCell ⟨g,i * 12+7,none⟩ (.int .i64 (kk+1+1+1+1+1+(m.c.l.length:Int)+2 * (m.c.g.length:Int)))).cell? ⟨g,i * 12+8,none⟩=some z:=InL.someE (L:=Q0A) (hsb.set i { yb with pl:=kk+1+1+1+1+1+(m.c.l.length:Int)+2 * (m.c.g.length:Int) }) (qr0) i 8 (by (try simp) <;> omega) (by decide)
    have qr1:InL Q0A 96 lo hi ((w5.setCell ⟨g,i * 12+7,none⟩ (.int .i64 (kk+1+1+1+1+1+(m.c.l.length:Int)+2 * (m.c.g.length:Int)))).setCell ⟨g,i * 12+8,none⟩ (.int .i64 (kk+1+1+1+1+1+(m.c.l.length:Int)+2 * (m.c.g.length:Int)+1))) (.slice (some ⟨g,0,none⟩) xs.length cap) (hsb.set i { yb with pl:=kk+1+1+1+1+1+(m.c.l.length:Int)+2 * (m.c.g.length:Int),st:=kk+1+1+1+1+1+(m.c.l.length:Int)+2 * (m.c.g.length:Int)+1 }):=by
     have h:=InL.putE (L:=Q0A) (hsb.set i { yb with pl:=kk+1+1+1+1+1+(m.c.l.length:Int)+2 * (m.c.g.length:Int) }) (qr0) i 8 (by (try simp) <;> omega) (by decide) (.int .i64 (kk+1+1+1+1+1+(m.c.l.length:Int)+2 * (m.c.g.length:Int)+1)) { yb with pl:=kk+1+1+1+1+1+(m.c.l.length:Int)+2 * (m.c.g.length:Int),st:=kk+1+1+1+1+1+(m.c.l.length:Int)+2 * (m.c.g.length:Int)+1 } (by rw [Q0M (by omega)];rfl)
     rw [List.set_set] at h
     exact h
    have qf2:((w5.setCell ⟨g,i * 12+7,none⟩ (.int .i64 (kk+1+1+1+1+1+(m.c.l.length:Int)+2 * (m.c.g.length:Int)))).setCell ⟨g,i * 12+8,none⟩ (.int .i64 (kk+1+1+1+1+1+(m.c.l.length:Int)+2 * (m.c.g.length:Int)+1))).frozen? ⟨g,i * 12+9,none⟩=false:=InL.frozE (qr1) (i * 12+9)
    obtain ⟨qu2,qh2⟩:∃z,((w5.setCell ⟨g,i * 12+7,none⟩ (.int .i64 (kk+1+1+1+1+1+(m.c.l.length:Int)+2 * (m.c.g.length:Int)))).setCell ⟨g,i * 12+8,none⟩ (.int .i64 (kk+1+1+1+1+1+(m.c.l.length:Int)+2 * (m.c.g.length:Int)+1))).cell? ⟨g,i * 12+9,none⟩=some z:=InL.someE (L:=Q0A) (hsb.set i { yb with pl:=kk+1+1+1+1+1+(m.c.l.length:Int)+2 * (m.c.g.length:Int),st:=kk+1+1+1+1+1+(m.c.l.length:Int)+2 * (m.c.g.length:Int)+1 }) (qr1) i 9 (by (try simp) <;> omega) (by decide)
    have qr2:InL Q0A 96 lo hi (((w5.setCell ⟨g,i * 12+7,none⟩ (.int .i64 (kk+1+1+1+1+1+(m.c.l.length:Int)+2 * (m.c.g.length:Int)))).setCell ⟨g,i * 12+8,none⟩ (.int .i64 (kk+1+1+1+1+1+(m.c.l.length:Int)+2 * (m.c.g.length:Int)+1))).setCell ⟨g,i * 12+9,none⟩ (.int .i64 (kk+1+1+1+1+1+(m.c.l.length:Int)+2 * (m.c.g.length:Int)+1+1))) (.slice (some ⟨g,0,none⟩) xs.length cap) (hsb.set i { yb with pl:=kk+1+1+1+1+1+(m.c.l.length:Int)+2 * (m.c.g.length:Int),st:=kk+1+1+1+1+1+(m.c.l.length:Int)+2 * (m.c.g.length:Int)+1,fa:=kk+1+1+1+1+1+(m.c.l.length:Int)+2 * (m.c.g.length:Int)+1+1 }):=by
     have h:=InL.putE (L:=Q0A) (hsb.set i { yb with pl:=kk+1+1+1+1+1+(m.c.l.length:Int)+2 * (m.c.g.length:Int),st:=kk+1+1+1+1+1+(m.c.l.length:Int)+2 * (m.c.g.length:Int)+1 }) (qr1) i 9 (by (try simp) <;> omega) (by decide) (.int .i64 (kk+1+1+1+1+1+(m.c.l.length:Int)+2 * (m.c.g.length:Int)+1+1)) { yb with pl:=kk+1+1+1+1+1+(m.c.l.length:Int)+2 * (m.c.g.length:Int),st:=kk+1+1+1+1+1+(m.c.l.length:Int)+2 * (m.c.g.length:Int)+1,fa:=kk+1+1+1+1+1+(m.c.l.length:Int)+2 * (m.c.g.length:Int)+1+1 } (by rw [Q0M (by omega)];rfl)
     rw [List.set_set] at h
     exact h
    have qf3:(((w5.setCell ⟨g,i * 12+7,none⟩ (.int .i64 (kk+1+1+1+1+1+(m.c.l.length:Int)+2 * (m.c.g.length:Int)))).setCell ⟨g,i * 12+8,none⟩ (.int .i64 (kk+1+1+1+1+1+(m.c.l.length:Int)+2 * (m.c.g.length:Int)+1))).setCell ⟨g,i * 12+9,none⟩ (.int .i64 (kk+1+1+1+1+1+(m.c.l.length:Int)+2 * (m.c.g.length:Int)+1+1))).frozen? ⟨g,i * 12+10,none⟩=false:=InL.frozE (qr2) (i * 12+10)
    obtain ⟨qu3,qh3⟩:∃z,(((w5.setCell ⟨g,i * 12+7,none⟩ (.int .i64 (kk+1+1+1+1+1+(m.c.l.length:Int)+2 * (m.c.g.length:Int)))).setCell ⟨g,i * 12+8,none⟩ (.int .i64 (kk+1+1+1+1+1+(m.c.l.length:Int)+2 * (m.c.g.length:Int)+1))).setCell ⟨g,i * 12+9,none⟩ (.int .i64 (kk+1+1+1+1+1+(m.c.l.length:Int)+2 * (m.c.g.length:Int)+1+1))).cell? ⟨g,i * 12+10,none⟩=some z:=InL.someE (L:=Q0A) (hsb.set i { yb with pl:=kk+1+1+1+1+1+(m.c.l.length:Int)+2 * (m.c.g.length:Int),st:=kk+1+1+1+1+1+(m.c.l.length:Int)+2 * (m.c.g.length:Int)+1,fa:=kk+1+1+1+1+1+(m.c.l.length:Int)+2 * (m.c.g.length:Int)+1+1 }) (qr2) i 10 (by (try simp) <;> omega) (by decide)
    have qr3:InL Q0A 96 lo hi ((((w5.setCell ⟨g,i * 12+7,none⟩ (.int .i64 (kk+1+1+1+1+1+(m.c.l.length:Int)+2 * (m.c.g.length:Int)))).setCell ⟨g,i * 12+8,none⟩ (.int .i64 (kk+1+1+1+1+1+(m.c.l.length:Int)+2 * (m.c.g.length:Int)+1))).setCell ⟨g,i * 12+9,none⟩ (.int .i64 (kk+1+1+1+1+1+(m.c.l.length:Int)+2 * (m.c.g.length:Int)+1+1))).setCell ⟨g,i * 12+10,none⟩ (.int .i64 (kk+1+1+1+1+1+(m.c.l.length:Int)+2 * (m.c.g.length:Int)+1+1+1))) (.slice (some ⟨g,0,none⟩) xs.length cap) (hsb.set i { yb with pl:=kk+1+1+1+1+1+(m.c.l.length:Int)+2 * (m.c.g.length:Int),st:=kk+1+1+1+1+1+(m.c.l.length:Int)+2 * (m.c.g.length:Int)+1,fa:=kk+1+1+1+1+1+(m.c.l.length:Int)+2 * (m.c.g.length:Int)+1+1,fp:=kk+1+1+1+1+1+(m.c.l.length:Int)+2 * (m.c.g.length:Int)+1+1+1 }):=by
     have h:=InL.putE (L:=Q0A) (hsb.set i { yb with pl:=kk+1+1+1+1+1+(m.c.l.length:Int)+2 * (m.c.g.length:Int),st:=kk+1+1+1+1+1+(m.c.l.length:Int)+2 * (m.c.g.length:Int)+1,fa:=kk+1+1+1+1+1+(m.c.l.length:Int)+2 * (m.c.g.length:Int)+1+1 }) (qr2) i 10 (by (try simp) <;> omega) (by decide) (.int .i64 (kk+1+1+1+1+1+(m.c.l.length:Int)+2 * (m.c.g.length:Int)+1+1+1)) { yb with pl:=kk+1+1+1+1+1+(m.c.l.length:Int)+2 * (m.c.g.length:Int),st:=kk+1+1+1+1+1+(m.c.l.length:Int)+2 * (m.c.g.length:Int)+1,fa:=kk+1+1+1+1+1+(m.c.l.length:Int)+2 * (m.c.g.length:Int)+1+1,fp:=kk+1+1+1+1+1+(m.c.l.length:Int)+2 * (m.c.g.length:Int)+1+1+1 } (by rw [Q0M (by omega)];rfl)
     rw [List.set_set] at h
     exact h
    have qf4:((((w5.setCell ⟨g,i * 12+7,none⟩ (.int .i64 (kk+1+1+1+1+1+(m.c.l.length:Int)+2 * (m.c.g.length:Int)))).setCell ⟨g,i * 12+8,none⟩ (.int .i64 (kk+1+1+1+1+1+(m.c.l.length:Int)+2 * (m.c.g.length:Int)+1))).setCell ⟨g,i * 12+9,none⟩ (.int .i64 (kk+1+1+1+1+1+(m.c.l.length:Int)+2 * (m.c.g.length:Int)+1+1))).setCell ⟨g,i * 12+10,none⟩ (.int .i64 (kk+1+1+1+1+1+(m.c.l.length:Int)+2 * (m.c.g.length:Int)+1+1+1))).frozen? ⟨g,i * 12+11,none⟩=false:=InL.frozE (qr3) (i * 12+11)
    obtain ⟨qu4,qh4⟩:∃z,((((w5.setCell ⟨g,i * 12+7,none⟩ (.int .i64 (kk+1+1+1+1+1+(m.c.l.length:Int)+2 * (m.c.g.length:Int)))).setCell ⟨g,i * 12+8,none⟩ (.int .i64 (kk+1+1+1+1+1+(m.c.l.length:Int)+2 * (m.c.g.length:Int)+1))).setCell ⟨g,i * 12+9,none⟩ (.int .i64 (kk+1+1+1+1+1+(m.c.l.length:Int)+2 * (m.c.g.length:Int)+1+1))).setCell ⟨g,i * 12+10,none⟩ (.int .i64 (kk+1+1+1+1+1+(m.c.l.length:Int)+2 * (m.c.g.length:Int)+1+1+1))).cell? ⟨g,i * 12+11,none⟩=some z:=InL.someE (L:=Q0A) (hsb.set i { yb with pl:=kk+1+1+1+1+1+(m.c.l.length:Int)+2 * (m.c.g.length:Int),st:=kk+1+1+1+1+1+(m.c.l.length:Int)+2 * (m.c.g.length:Int)+1,fa:=kk+1+1+1+1+1+(m.c.l.length:Int)+2 * (m.c.g.length:Int)+1+1,fp:=kk+1+1+1+1+1+(m.c.l.length:Int)+2 * (m.c.g.length:Int)+1+1+1 }) (qr3) i 11 (by (try simp) <;> omega) (by decide)
    have qr4:InL Q0A 96 lo hi (((((w5.setCell ⟨g,i * 12+7,none⟩ (.int .i64 (kk+1+1+1+1+1+(m.c.l.length:Int)+2 * (m.c.g.length:Int)))).setCell ⟨g,i * 12+8,none⟩ (.int .i64 (kk+1+1+1+1+1+(m.c.l.length:Int)+2 * (m.c.g.length:Int)+1))).setCell ⟨g,i * 12+9,none⟩ (.int .i64 (kk+1+1+1+1+1+(m.c.l.length:Int)+2 * (m.c.g.length:Int)+1+1))).setCell ⟨g,i * 12+10,none⟩ (.int .i64 (kk+1+1+1+1+1+(m.c.l.length:Int)+2 * (m.c.g.length:Int)+1+1+1))).setCell ⟨g,i * 12+11,none⟩ (.int .i64 (kk+1+1+1+1+1+(m.c.l.length:Int)+2 * (m.c.g.length:Int)+1+1+1+1))) (.slice (some ⟨g,0,none⟩) xs.length cap) (hsb.set i { yb with pl:=kk+1+1+1+1+1+(m.c.l.length:Int)+2 * (m.c.g.length:Int),st:=kk+1+1+1+1+1+(m.c.l.length:Int)+2 * (m.c.g.length:Int)+1,fa:=kk+1+1+1+1+1+(m.c.l.length:Int)+2 * (m.c.g.length:Int)+1+1,fp:=kk+1+1+1+1+1+(m.c.l.length:Int)+2 * (m.c.g.length:Int)+1+1+1,bk:=kk+1+1+1+1+1+(m.c.l.length:Int)+2 * (m.c.g.length:Int)+1+1+1+1 }):=by
     have h:=InL.putE (L:=Q0A) (hsb.set i { yb with pl:=kk+1+1+1+1+1+(m.c.l.length:Int)+2 * (m.c.g.length:Int),st:=kk+1+1+1+1+1+(m.c.l.length:Int)+2 * (m.c.g.length:Int)+1,fa:=kk+1+1+1+1+1+(m.c.l.length:Int)+2 * (m.c.g.length:Int)+1+1,fp:=kk+1+1+1+1+1+(m.c.l.length:Int)+2 * (m.c.g.length:Int)+1+1+1 }) (qr3) i 11 (by (try simp) <;> omega) (by decide) (.int .i64 (kk+1+1+1+1+1+(m.c.l.length:Int)+2 * (m.c.g.length:Int)+1+1+1+1)) { yb with pl:=kk+1+1+1+1+1+(m.c.l.length:Int)+2 * (m.c.g.length:Int),st:=kk+1+1+1+1+1+(m.c.l.length:Int)+2 * (m.c.g.length:Int)+1,fa:=kk+1+1+1+1+1+(m.c.l.length:Int)+2 * (m.c.g.length:Int)+1+1,fp:=kk+1+1+1+1+1+(m.c.l.length:Int)+2 * (m.c.g.length:Int)+1+1+1,bk:=kk+1+1+1+1+1+(m.c.l.length:Int)+2 * (m.c.g.length:Int)+1+1+1+1 } (by rw [Q0M (by omega)];rfl)
     rw [List.set_set] at h
     exact h
    have HP2:=Q00 (show Stp g (g+1) w5 (((((w5.setCell ⟨g,i * 12+7,none⟩ (.int .i64 (kk+1+1+1+1+1+(m.c.l.length:Int)+2 * (m.c.g.length:Int)))).setCell ⟨g,i * 12+8,none⟩ (.int .i64 (kk+1+1+1+1+1+(m.c.l.length:Int)+2 * (m.c.g.length:Int)+1))).setCell ⟨g,i * 12+9,none⟩ (.int .i64 (kk+1+1+1+1+1+(m.c.l.length:Int)+2 * (m.c.g.length:Int)+1+1))).setCell ⟨g,i * 12+10,none⟩ (.int .i64 (kk+1+1+1+1+1+(m.c.l.length:Int)+2 * (m.c.g.length:Int)+1+1+1))).setCell ⟨g,i * 12+11,none⟩ (.int .i64 (kk+1+1+1+1+1+(m.c.l.length:Int)+2 * (m.c.g.length:Int)+1+1+1+1))) from ((((((Stp.refl w5).trans (Q06 _ g _ _)).trans (Q06 _ g _ _)).trans (Q06 _ g _ _)).trans (Q06 _ g _ _)).trans (Q06 _ g _ _)))
    have HRF:Hid (InL Q0A 96 lo hi (((((w5.setCell ⟨g,i * 12+7,none⟩ (.int .i64 (kk+1+1+1+1+1+(m.c.l.length:Int)+2 * (m.c.g.length:Int)))).setCell ⟨g,i * 12+8,none⟩ (.int .i64 (kk+1+1+1+1+1+(m.c.l.length:Int)+2 * (m.c.g.length:Int)+1))).setCell ⟨g,i * 12+9,none⟩ (.int .i64 (kk+1+1+1+1+1+(m.c.l.length:Int)+2 * (m.c.g.length:Int)+1+1))).setCell ⟨g,i * 12+10,none⟩ (.int .i64 (kk+1+1+1+1+1+(m.c.l.length:Int)+2 * (m.c.g.length:Int)+1+1+1))).setCell ⟨g,i * 12+11,none⟩ (.int .i64 (kk+1+1+1+1+1+(m.c.l.length:Int)+2 * (m.c.g.length:Int)+1+1+1+1))) (.slice (some ⟨g,0,none⟩) xs.length cap) (hs.set i { y with k:=kk,a:=kk+1,b:=kk+1+1,f:=kk+1+1+1,s:=kk+1+1+1+1,pl:=kk+1+1+1+1+1+(m.c.l.length:Int)+2 * (m.c.g.length:Int),st:=kk+1+1+1+1+1+(m.c.l.length:Int)+2 * (m.c.g.length:Int)+1,fa:=kk+1+1+1+1+1+(m.c.l.length:Int)+2 * (m.c.g.length:Int)+1+1,fp:=kk+1+1+1+1+1+(m.c.l.length:Int)+2 * (m.c.g.length:Int)+1+1+1,bk:=kk+1+1+1+1+1+(m.c.l.length:Int)+2 * (m.c.g.length:Int)+1+1+1+1 })):=by
     have h:=qr4
     rw [←HHB.out.2,List.set_set,←HHB.out.1] at h
     exact h
    clear qr0 qr1 qr2 qr3 qr4
    have HQF:Hid (QM (L i) (H i) (((((w5.setCell ⟨g,i * 12+7,none⟩ (.int .i64 (kk+1+1+1+1+1+(m.c.l.length:Int)+2 * (m.c.g.length:Int)))).setCell ⟨g,i * 12+8,none⟩ (.int .i64 (kk+1+1+1+1+1+(m.c.l.length:Int)+2 * (m.c.g.length:Int)+1))).setCell ⟨g,i * 12+9,none⟩ (.int .i64 (kk+1+1+1+1+1+(m.c.l.length:Int)+2 * (m.c.g.length:Int)+1+1))).setCell ⟨g,i * 12+10,none⟩ (.int .i64 (kk+1+1+1+1+1+(m.c.l.length:Int)+2 * (m.c.g.length:Int)+1+1+1))).setCell ⟨g,i * 12+11,none⟩ (.int .i64 (kk+1+1+1+1+1+(m.c.l.length:Int)+2 * (m.c.g.length:Int)+1+1+1+1))) (Qhd { y with k:=kk,a:=kk+1,b:=kk+1+1,f:=kk+1+1+1,s:=kk+1+1+1+1,pl:=kk+1+1+1+1+1+(m.c.l.length:Int)+2 * (m.c.g.length:Int),st:=kk+1+1+1+1+1+(m.c.l.length:Int)+2 * (m.c.g.length:Int)+1,fa:=kk+1+1+1+1+1+(m.c.l.length:Int)+2 * (m.c.g.length:Int)+1+1,fp:=kk+1+1+1+1+1+(m.c.l.length:Int)+2 * (m.c.g.length:Int)+1+1+1,bk:=kk+1+1+1+1+1+(m.c.l.length:Int)+2 * (m.c.g.length:Int)+1+1+1+1 }) (QgO kk m)):=by
     refine ⟨v1,v2,a,b,a2,b2,by unfold QgO;rw [←HE12.out.1,←HE12.out.2],kb,InRow.step ⟨(Q46.1 HO1b.out),HIC.out.2⟩ HP2.out (by omega),InRow.step ⟨HO2.out,HIT.out.2⟩ HP2.out (by omega),HNE.out⟩
    have HFN:Hid (RwE elM (Q1w (Qfh k xs) xs mmD (i+1)) lo hi (((((w5.setCell ⟨g,i * 12+7,none⟩ (.int .i64 (kk+1+1+1+1+1+(m.c.l.length:Int)+2 * (m.c.g.length:Int)))).setCell ⟨g,i * 12+8,none⟩ (.int .i64 (kk+1+1+1+1+1+(m.c.l.length:Int)+2 * (m.c.g.length:Int)+1))).setCell ⟨g,i * 12+9,none⟩ (.int .i64 (kk+1+1+1+1+1+(m.c.l.length:Int)+2 * (m.c.g.length:Int)+1+1))).setCell ⟨g,i * 12+10,none⟩ (.int .i64 (kk+1+1+1+1+1+(m.c.l.length:Int)+2 * (m.c.g.length:Int)+1+1+1))).setCell ⟨g,i * 12+11,none⟩ (.int .i64 (kk+1+1+1+1+1+(m.c.l.length:Int)+2 * (m.c.g.length:Int)+1+1+1+1))) (hs.set i { y with k:=kk,a:=kk+1,b:=kk+1+1,f:=kk+1+1+1,s:=kk+1+1+1+1,pl:=kk+1+1+1+1+1+(m.c.l.length:Int)+2 * (m.c.g.length:Int),st:=kk+1+1+1+1+1+(m.c.l.length:Int)+2 * (m.c.g.length:Int)+1,fa:=kk+1+1+1+1+1+(m.c.l.length:Int)+2 * (m.c.g.length:Int)+1+1,fp:=kk+1+1+1+1+1+(m.c.l.length:Int)+2 * (m.c.g.length:Int)+1+1+1,bk:=kk+1+1+1+1+1+(m.c.l.length:Int)+2 * (m.c.g.length:Int)+1+1+1+1 }) L H):=by
     unfold Hid
     rw [←Q47,hmk.out]
     refine HRW1.out.set (by rw [Q0L];exact hlt) (fun j hj hji=> ?_) HQF.out
     have hj2:j < xs.length:=by rw [Q0L] at hj;exact hj
     have hs9:=HSEP.out j i hj2 hlt hji
     exact elM.qs.go (elM.qs.go (HRW1.out.row j hj) S12.out (by omega)) HP2.out (HQ1.out j hj2)
    have HSF:=Q00 (HST.out.trans ((HP.out.wide2 hgl hgh).trans ((S12.out.wide2 (HBD.out i hlt).1 (HBD.out i hlt).2).trans (HP2.out.wide2 hgl hgh))))
    clear HRW HRW1 HR4 HR5 HIC HIT HIT4 S1 S12 HP HP2 HPR HROW HST HQF HO1b HO2
    go_wp2
    go_roundw
    case rel=>
     refine ⟨i+1,hs.set i { y with k:=kk,a:=kk+1,b:=kk+1+1,f:=kk+1+1+1,s:=kk+1+1+1+1,pl:=kk+1+1+1+1+1+(m.c.l.length:Int)+2 * (m.c.g.length:Int),st:=kk+1+1+1+1+1+(m.c.l.length:Int)+2 * (m.c.g.length:Int)+1,fa:=kk+1+1+1+1+1+(m.c.l.length:Int)+2 * (m.c.g.length:Int)+1+1,fp:=kk+1+1+1+1+1+(m.c.l.length:Int)+2 * (m.c.g.length:Int)+1+1+1,bk:=kk+1+1+1+1+1+(m.c.l.length:Int)+2 * (m.c.g.length:Int)+1+1+1+1 },by omega,by go_num,by rw [HKK.out],HRF.out,HFN.out,HSF.out⟩
    case measure=> simp [intOf];omega
   ·have e:i=xs.length:=by omega
    subst e
    have hz9:Q0G (nM xs) xs.length=nMs xs:=rfl
    rw [hz9]
    have HE:Hid (Q1w (Qfh k xs) xs mmD xs.length=Qgb k xs):=Q4i _ _ _
    have HL9:=Q00 (QeW k xs)
    clear hz9
    go_wp2
    go_ret
    exact ⟨rfl,⟨hs,L,H,HROW.out,by rw [←HE.out];exact HRW.out,by rw [HL9.out];exact HOB.out⟩,HST.out⟩
end Go.Proofs.YtgplppfbinfelaaGreat
