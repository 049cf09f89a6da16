/- Rows of agents: how they read, what owns its memory; the laws' own helpers over them. -/
import Derived.Test.YtgplppfbinfelaaGreatQOldest18
import Derived.Test.YtgplppfbinfelaaGreatQOldest19
namespace Go.Proofs.YtgplppfbinfelaaGreat
open Go.ChangeShapes Go.WideShapes Go.ChangeAt Go.RowKit Go.Joins
set_option linter.unusedVariables false
set_option linter.unusedSimpArgs false
set_option maxRecDepth 100000
set_option maxHeartbeats 40000000
theorem bCA {C b j:Nat} {w w':World} {u:Value} (h:Below C w w') (hc:w.cell? ⟨b,j,none⟩=some u) (hz:b < C):w'.cell? ⟨b,j,none⟩=some u:=(h.cell (p:=⟨b,j,none⟩) hz).trans hc
structure Ah where
 id:Int
 lim:Int
 dr:Bool
 c:Hd
 t:Hd
def layAh:Lay Ah:=⟨5,fun h=> [.int .i64 h.id,.int .i64 h.lim,.bool h.dr,.slice h.c.1 h.c.2.1 h.c.2.2,.slice h.t.1 h.t.2.1 h.t.2.2],⟨0,0,false,(none,0,0),(none,0,0)⟩,fun _=> rfl⟩
abbrev amD:Am:=⟨0,0,false,[],[]⟩
abbrev valA (h:Ah):Value:=agt h.id h.lim h.dr (.slice h.c.1 h.c.2.1 h.c.2.2) (.slice h.t.1 h.t.2.1 h.t.2.2)
def RiA (lo hi:Nat) (w:World) (v:Value) (m:Am):Prop:=∃o1 c1 o2 c2,v=agt m.id m.lim m.dr (.slice o1 m.c.length c1) (.slice o2 m.t.length c2)∧RiV layS lo hi w (.slice o1 m.c.length c1) m.c∧RiV layS lo hi w (.slice o2 m.t.length c2) m.t
def QA (lo hi:Nat) (w:World) (v:Value) (m:Am):Prop:=∃v1 v2 a b a' b',v=agt m.id m.lim m.dr v1 v2∧(lo≤a∧b≤hi∧lo≤a'∧b'≤hi)∧InL layS 165 a b w v1 m.c∧InL layS 165 a' b' w v2 m.t∧(v1.ownBlock=none∨v1.ownBlock≠v2.ownBlock)
theorem RiA.rs:Stps RiA:=⟨fun ⟨o1,c1,o2,c2,e,h1,h2⟩ s hd=> ⟨o1,c1,o2,c2,e,h1.step s hd,h2.step s hd⟩⟩
theorem RiA.rm:Monos RiA:=⟨fun ⟨o1,c1,o2,c2,e,h1,h2⟩ k1 k2=> ⟨o1,c1,o2,c2,e,h1.mono k1 k2,h2.mono k1 k2⟩⟩
theorem QA.qs:Stps QA:=⟨fun ⟨v1,v2,a,b,a',b',e,k,h1,h2,h3⟩ s hd=> ⟨v1,v2,a,b,a',b',e,k,InRow.step h1 s (by omega),InRow.step h2 s (by omega),h3⟩⟩
theorem QA.qr {lo hi:Nat} {w:World} {v:Value} {m:Am} (h:QA lo hi w v m):RiA lo hi w v m:=by
 obtain ⟨v1,v2,a,b,a',b',e,k,h1,h2,_⟩:=h
 obtain ⟨o1,c1,e1,r1⟩:=InRow.ri h1
 obtain ⟨o2,c2,e2,r2⟩:=InRow.ri h2
 subst e1 e2
 exact ⟨o1,c1,o2,c2,e,RiV.mono ⟨o1,c1,rfl,r1⟩ k.1 k.2.1,RiV.mono ⟨o2,c2,rfl,r2⟩ k.2.2.1 k.2.2.2⟩
def elA:El Ah Am:=⟨layAh,valA,RiA,QA,amD,by decide,RiA.rs,RiA.rm,QA.qs,QA.qr⟩
theorem RiA.rd {C:Nat} {w:World} {v:Value} {m:Am} (h:RiA 0 C w v m):RdA C w v m:=by
 obtain ⟨o1,c1,o2,c2,e,⟨o1',c1',e1,r1⟩,⟨o2',c2',e2,r2⟩⟩:=h
 exact ⟨_,_,e,⟨o1',c1',e1,r1.rd⟩,⟨o2',c2',e2,r2.rd⟩⟩
theorem RiA.on {w w':World} {v:Value} {m:Am} (h:RiA 0 w.heap.size w v m) (hb:Below w.heap.size w w'):RdA w'.heap.size w' v m:=
 (RiA.rm.go (RiA.rs.go h (Stp.of (lo:=0) (hi:=0) hb) (.inl (Nat.zero_le _))) (Nat.le_refl _) hb.size).rd
theorem RiA.cells {a C:Nat} {w:World} {o:Option Addr} {n c:Nat} {xs:List Am} (h:RiE elA a C w (.slice o n c) xs) (i:Nat) (hi:i < xs.length) {m:Am} (hm:xs.getD i amD=m):
  ∃b off o1 c1 o2 c2,o=some ⟨b,off,none⟩∧b < C∧w.cell? ⟨b,off+i * 5,none⟩=some (.int .i64 m.id)∧w.cell? ⟨b,off+i * 5+1,none⟩=some (.int .i64 m.lim)∧w.cell? ⟨b,off+i * 5+2,none⟩=some (.bool m.dr)∧w.cell? ⟨b,off+i * 5+3,none⟩=some (.slice o1 m.c.length c1)∧w.cell? ⟨b,off+i * 5+4,none⟩=some (.slice o2 m.t.length c2)∧RiA a C w (agt m.id m.lim m.dr (.slice o1 m.c.length c1) (.slice o2 m.t.length c2)) m∧RiV layS a C w (.slice o1 m.c.length c1) m.c∧RiV layS a C w (.slice o2 m.t.length c2) m.t:=by
 obtain ⟨b,off,y,rfl,hb,hc,hr⟩:=h.at i hi
 rw [show xs.getD i elA.d=m from hm] at hr
 obtain ⟨o1,c1,o2,c2,e,r1,r2⟩:=hr
 have e':Value.agg #[.int .i64 y.id,.int .i64 y.lim,.bool y.dr,.slice y.c.1 y.c.2.1 y.c.2.2,.slice y.t.1 y.t.2.1 y.t.2.2]=Value.agg #[.int .i64 m.id,.int .i64 m.lim,.bool m.dr,.slice o1 m.c.length c1,.slice o2 m.t.length c2]:=e
 simp only [Value.agg.injEq,Array.mk.injEq,List.cons.injEq,and_true] at e'
 obtain ⟨e0,e1,e2,e3,e4⟩:=e'
 have h0:w.cell? ⟨b,off+i * 5,none⟩=some _:=hc 0 (by decide)
 rw [e0] at h0
 have h1:w.cell? ⟨b,off+i * 5+1,none⟩=some _:=hc 1 (by decide)
 rw [e1] at h1
 have h2:w.cell? ⟨b,off+i * 5+2,none⟩=some _:=hc 2 (by decide)
 rw [e2] at h2
 have h3:w.cell? ⟨b,off+i * 5+3,none⟩=some _:=hc 3 (by decide)
 rw [e3] at h3
 have h4:w.cell? ⟨b,off+i * 5+4,none⟩=some _:=hc 4 (by decide)
 rw [e4] at h4
 exact ⟨b,off,o1,c1,o2,c2,rfl,hb,h0,h1,h2,h3,h4,⟨o1,c1,o2,c2,rfl,r1,r2⟩,r1,r2⟩
def cntA (xs:List Am) (i:Nat):Nat:=(xs.getD i amD).c.length+(xs.getD i amD).t.length
def szAs (xs:List Am):Nat:=sumN (cntA xs) xs.length
def lenAs (xs:List Am):Prop:=xs.length≤maxLen∧∀i,i < xs.length→(xs.getD i amD).c.length≤maxLen∧(xs.getD i amD).t.length≤maxLen
theorem szAgent_n (m:Am) (o1 o2:Option Addr) (c1 c2:Nat) (n:Int) (w:World) (hl:m.c.length≤maxLen) (hg:m.t.length≤maxLen) (h0:0≤n) (h1:n≤1048576):
  Calls Tryz.prog 86 #[agt m.id m.lim m.dr (.slice o1 m.c.length c1) (.slice o2 m.t.length c2),.int .i64 n] w fun e w'=> e=.returned (.int .i64 (if n - m.c.length - m.t.length < 0 then -1 else n - m.c.length - m.t.length))∧Below w.heap.size w w':=by
 obtain ⟨l1,e1⟩:∃q,m.c.length=q:=⟨_,rfl⟩
 obtain ⟨l2,e2⟩:∃q,m.t.length=q:=⟨_,rfl⟩
 rw [e1] at hl ⊢
 rw [e2] at hg ⊢
 clear e1 e2
 have hs1:=fun W=> szTable_n o1 l1 c1 n W hl h0 h1
 have hb0:Below w.heap.size w (w.alloc (.cells #[.int .i64 m.id,.int .i64 m.lim,.bool m.dr,.slice o1 l1 c1,.slice o2 l2 c2] 151)):=(Below.refl _ _).alloc (Nat.le_refl _) _
 have hx:=World.alloc_heap_new w (.cells #[.int .i64 m.id,.int .i64 m.lim,.bool m.dr,.slice o1 l1 c1,.slice o2 l2 c2] 151)
 have hz:w.heap.size < (w.alloc (.cells #[.int .i64 m.id,.int .i64 m.lim,.bool m.dr,.slice o1 l1 c1,.slice o2 l2 c2] 151)).heap.size:=by simp
 have z3:(w.alloc (.cells #[.int .i64 m.id,.int .i64 m.lim,.bool m.dr,.slice o1 l1 c1,.slice o2 l2 c2] 151)).cell? ⟨w.heap.size,3,none⟩=some (.slice o1 l1 c1):=block_cell1 hx 3 _ rfl
 by_cases h:n - l1 < 0
 ·rw [if_pos h] at hs1
  rw [if_pos (by omega)]
  go_enter Tryz.func86,Tryz.ntmps86
  go_wp2_with fail
  refine (hs1 _).mono ?_
  rintro e w1 ⟨rfl,hb1⟩
  have HB:=hide (hb0.trans (hb1.mono (Nat.le_of_lt hz)))
  clear hb1 hb0 hx z3
  go_wp2
  go_ret
  exact ⟨rfl,HB.out⟩
 ·rw [if_neg h] at hs1
  have hs2:=fun W=> szTable_n o2 l2 c2 (n - l1) W hg (by omega) (by omega)
  obtain ⟨q,hq⟩:∃q:Int,(if n - l1 - l2 < 0 then -1 else n - l1 - l2)=q:=⟨_,rfl⟩
  rw [hq] at hs2 ⊢
  have HQ:=hide hq
  clear hq
  have hnl:¬(n - (l1:Int) < 0):=h
  go_enter Tryz.func86,Tryz.ntmps86
  go_wp2_with fail
  refine (hs1 _).mono ?_
  rintro e w1 ⟨rfl,hb1⟩
  have HB:=hide (hb0.trans (hb1.mono (Nat.le_of_lt hz)))
  have z4:w1.cell? ⟨w.heap.size,4,none⟩=some (.slice o2 l2 c2):=block_cell1 ((hb1.block _ hz).trans hx) 4 _ rfl
  clear hb1 hb0 hx z3 hs1
  go_wp2_with fail
  refine (hs2 _).mono ?_
  rintro e w2 ⟨rfl,hb2⟩
  have HB2:=hide (HB.out.trans (hb2.mono HB.out.size))
  clear hb2 z4 hs2
  by_cases hqn:q < 0
  ·have HQ1:Hid (q= -1):=by have:=HQ.out;unfold Hid;split at this <;> omega
   go_wp2
   go_ret
   exact ⟨by rw [HQ1.out];rfl,HB2.out⟩
  ·go_wp2
   go_ret
   exact ⟨rfl,HB2.out⟩
theorem szAgentS_any (v:Value) (xs:List Am) (n:Int) (w:World) (hR:RiE elA 0 w.heap.size w v xs) (hl:lenAs xs) (h0:0≤n) (h1:n≤1048576):
  Calls Tryz.prog 38 #[v,.int .i64 n] w fun e w'=> (e=.returned (.int .i64 (-1))∨∃z:Int,e=.returned (.int .i64 z)∧0≤z∧z≤n∧(xs.length:Int)+(szAs xs:Int)≤n)∧Below w.heap.size w w':=by
 obtain ⟨o,cap,ev⟩:=hR.len
 subst ev
 obtain ⟨hl0,hx⟩:=hl
 have hl':=hl0
 unfold maxLen at hl'
 by_cases h:n - xs.length < 0
 ·go_enter Tryz.func38,Tryz.ntmps38
  go_wp2
  go_ret
  exact ⟨.inl rfl,Below.refl _ _⟩
 ·go_enter Tryz.func38,Tryz.ntmps38
  go_wp2
  go_loopw [1,5] (fun n' i wr=> ∃(k:Nat) (z:Int),k≤xs.length∧i=.int .i64 (k:Int)∧n'=.int .i64 z∧0≤z∧z≤n - (xs.length:Int) - (sumN (cntA xs) k:Int)∧Hid (Below w.heap.size w wr))
   (fun _ i _=> xs.length - (intOf i).toNat)
  case atStart=> exact ⟨0,n - xs.length,Nat.zero_le _,rfl,rfl,by omega,by simp [sumN],Below.refl _ _⟩
  case round=>
   obtain ⟨k,z,hk,rfl,rfl,hz0,hz1,HBr⟩:=hrel
   by_cases hlt:k < xs.length
   ·obtain ⟨m,hm⟩:∃m,xs.getD k amD=m:=⟨_,rfl⟩
    obtain ⟨b,off,o1,c1,o2,c2,rfl,hb,p0,p1,p2,p3,p4,_⟩:=RiA.cells hR k hlt hm
    have hxk:=hx k hlt
    rw [hm] at hxk
    have hsn:(0:Int)≤(sumN (cntA xs) k:Int):=by omega
    have HZ:=hide (szAgent_n m o1 o2 c1 c2 z wr hxk.1 hxk.2 hz0 (by omega))
    have HSU:=hide (show sumN (cntA xs) (k+1)=sumN (cntA xs) k+(m.c.length+m.t.length) by rw [←hm];rfl)
    replace p0:=bCA HBr.out p0 hb
    replace p1:=bCA HBr.out p1 hb
    replace p2:=bCA HBr.out p2 hb
    replace p3:=bCA HBr.out p3 hb
    replace p4:=bCA HBr.out p4 hb
    have HR:=hide hR
    have z1:(k:Int) < (xs.length:Int):=by omega
    clear hxk hR hx hm
    obtain ⟨q1,hq1⟩:∃q,m.c.length=q:=⟨_,rfl⟩
    obtain ⟨q2,hq2⟩:∃q,m.t.length=q:=⟨_,rfl⟩
    rw [hq1,hq2] at HZ HSU
    rw [hq1] at p3
    rw [hq2] at p4
    clear hq1 hq2
    generalize sumN (cntA xs) k=sk at *
    obtain ⟨y,hy⟩:∃y:Int,(if z - q1 - q2 < 0 then -1 else z - q1 - q2)=y:=⟨_,rfl⟩
    rw [hy] at HZ
    have HY:=hide hy
    clear hy
    go_wp2_with fail
    refine HZ.out.mono ?_
    rintro e w2 ⟨rfl,hb2⟩
    have HB2:=hide (HBr.out.trans (hb2.mono HBr.out.size))
    clear hb2 p0 p1 p2 p3 p4 HZ
    by_cases hyn:y < 0
    ·go_wp2
     go_ret
     exact ⟨.inl rfl,HB2.out⟩
    ·have hyn':¬(y < 0):=hyn
     go_wp2
     go_roundw
     case rel=> exact ⟨k+1,y,by omega,by go_num,rfl,by omega,(by have:=HY.out;rw [HSU.out];split at this <;> push_cast <;> omega),HB2.out⟩
     case measure=> simp [intOf];omega
   ·have e:k=xs.length:=by omega
    subst e
    have hsz:sumN (cntA xs) xs.length=szAs xs:=rfl
    rw [hsz] at hz1
    clear hsz
    go_wp2
    go_ret
    exact ⟨.inr ⟨z,rfl,hz0,by omega,by omega⟩,HBr.out⟩
theorem storedA {e:TypeId} {w wr:World} {base B g c n:Nat} {l:List Ah} {k:Nat} (h:Ah) (hg:B≤g) (hown:wr.ownsRow base e 5 (.slice (some ⟨g,0,none⟩) n c) n (l.flatMap layAh.cs)) (hB:Below B w wr):
  (((((wr.setCell ⟨g,k * 5,none⟩ (.int .i64 h.id)).setCell ⟨g,k * 5+1,none⟩ (.int .i64 h.lim)).setCell ⟨g,k * 5+2,none⟩ (.bool h.dr)).setCell ⟨g,k * 5+3,none⟩ (.slice h.c.1 h.c.2.1 h.c.2.2)).setCell ⟨g,k * 5+4,none⟩ (.slice h.t.1 h.t.2.1 h.t.2.2)).ownsRow base e 5 (.slice (some ⟨g,0,none⟩) n c) n ((l.set k h).flatMap layAh.cs)∧Below B w (((((wr.setCell ⟨g,k * 5,none⟩ (.int .i64 h.id)).setCell ⟨g,k * 5+1,none⟩ (.int .i64 h.lim)).setCell ⟨g,k * 5+2,none⟩ (.bool h.dr)).setCell ⟨g,k * 5+3,none⟩ (.slice h.c.1 h.c.2.1 h.c.2.2)).setCell ⟨g,k * 5+4,none⟩ (.slice h.t.1 h.t.2.1 h.t.2.2))∧Stp g (g+1) wr (((((wr.setCell ⟨g,k * 5,none⟩ (.int .i64 h.id)).setCell ⟨g,k * 5+1,none⟩ (.int .i64 h.lim)).setCell ⟨g,k * 5+2,none⟩ (.bool h.dr)).setCell ⟨g,k * 5+3,none⟩ (.slice h.c.1 h.c.2.1 h.c.2.2)).setCell ⟨g,k * 5+4,none⟩ (.slice h.t.1 h.t.2.1 h.t.2.2)):=by
 have q:=(((((hown.stored (k * 5) (.int .i64 h.id)).1.stored (k * 5+1) (.int .i64 h.lim)).1.stored (k * 5+2) (.bool h.dr)).1.stored (k * 5+3) (.slice h.c.1 h.c.2.1 h.c.2.2)).1.stored (k * 5+4) (.slice h.t.1 h.t.2.1 h.t.2.2)).1
 rw [flat_set5 layAh rfl (a:=h) rfl] at q
 exact ⟨q,(((((hB.setCell (p:=⟨g,k * 5,none⟩) hg _).setCell (p:=⟨g,k * 5+1,none⟩) hg _).setCell (p:=⟨g,k * 5+2,none⟩) hg _).setCell (p:=⟨g,k * 5+3,none⟩) hg _).setCell (p:=⟨g,k * 5+4,none⟩) hg _),((((((Stp.refl wr).trans (stp_set1 _ g (k * 5) _)).trans (stp_set1 _ g (k * 5+1) _)).trans (stp_set1 _ g (k * 5+2) _)).trans (stp_set1 _ g (k * 5+3) _)).trans (stp_set1 _ g (k * 5+4) _))⟩
theorem infoA:(Tryz.prog.info? 87).map (fun i=> (i.zero,i.size,i.bytes))=some (some (.agg #[.int .i64 0,.int .i64 0,.bool false,.slice none 0 0,.slice none 0 0]),5,72):=by kernel_rfl
theorem toAgentS_any (v:Value) (xs:List Am) (w:World) (hR:RiE elA 0 w.heap.size w v xs) (hlen:xs.length≤1048576) (hx:∀i,i < xs.length→(xs.getD i amD).c.length+(xs.getD i amD).t.length≤1048576):
  Calls Tryz.prog 46 #[v] w fun e w'=> ∃v',e=.returned v'∧InE elA 87 w.heap.size w'.heap.size w' v' xs∧Below w.heap.size w w':=by
 obtain ⟨o,cap,ev⟩:=hR.len
 subst ev
 obtain ⟨i0,hi,hz0,hz1,hz2⟩:=info_parts infoA
 have HR0:=hide hR
 have HX:=hide hx
 clear hR hx
 go_enter Tryz.func46,Tryz.ntmps46
 go_wp2_with (at_make;refine wpList_make_full _ rfl _ _ 52 rfl w.heap.size 87 i0 (agt 0 0 false (.slice none 0 0) (.slice none 0 0)) 5 Tryz.underlying52 hi hz0 hz1 _ _ _ _ xs.length rfl rfl rfl rfl ?b2 ?b3 ?b4 ?_)
 case b2=> rw [hz2];omega
 case b3=> unfold maxLen;omega
 case b4=> simp
 intro w3 hown hgrow
 have HB3:=hide (show Below w.heap.size w w3 from (Below.refl _ _).grown hgrow (Nat.le_refl _) (fun k h=> by cases h))
 have HO3:Hid (w3.ownsRow w.heap.size 87 5 (.slice (some ⟨w.heap.size,0,none⟩) xs.length xs.length) xs.length ((fillE layAh [] xs.length 0).flatMap layAh.cs)):=by
  rw [fillE_zero,←made_flat layAh (agt 0 0 false (.slice none 0 0) (.slice none 0 0)) rfl];exact hown
 have hs3:w.heap.size+1≤w3.heap.size:=(hown.lt w.heap.size rfl).2
 clear hown hgrow
 go_wp2
 go_loopw [4] (fun iv wr=> ∃(k:Nat) (hs:List Ah) (L H:Nat→Nat),k≤xs.length∧iv=.int .i64 (k:Int)∧Hid (wr.ownsRow w.heap.size 87 5 (.slice (some ⟨w.heap.size,0,none⟩) xs.length xs.length) xs.length ((fillE layAh hs xs.length k).flatMap layAh.cs))∧Hid (RwE elA (xs.take k) (w.heap.size+1) wr.heap.size wr hs L H)∧Hid (Below w.heap.size w wr)∧w.heap.size+1≤wr.heap.size)
  (fun iv _=> xs.length - (intOf iv).toNat)
 case atStart=> exact ⟨0,[],fun _=> 0,fun _=> 0,Nat.zero_le _,rfl,HO3.out,by rw [List.take_zero];exact RwE.nil _ _ _ _ _ _,HB3.out,hs3⟩
 case round=>
  obtain ⟨k,hs,L,H,hk8,rfl,HO,HR,HBr,hsr⟩:=hrel
  clear HO3 HB3 hs3
  have hhl:hs.length=k:=by have h1:=HR.out.len;rw [List.length_take] at h1;omega
  have HHL:=hide hhl
  by_cases hlt:k < xs.length
  ·have z1:(k:Int) < (xs.length:Int):=by omega
   obtain ⟨m,hm⟩:∃m,xs.getD k amD=m:=⟨_,rfl⟩
   have HS:=hide (takeE_snoc (xs:=xs) amD hlt)
   have hxk:=HX.out k hlt
   rw [hm] at HS hxk
   obtain ⟨b,off,o1,c1,o2,c2,rfl,hbl,p0,p1,p2,p3,p4,rr,_⟩:=RiA.cells HR0.out k hlt hm
   have HL:=hide (toAgent_sh _ m wr (rr.on HBr.out) hxk)
   replace p0:=bCA HBr.out p0 hbl
   replace p1:=bCA HBr.out p1 hbl
   replace p2:=bCA HBr.out p2 hbl
   replace p3:=bCA HBr.out p3 hbl
   replace p4:=bCA HBr.out p4 hbl
   have HW:=hide hlt
   clear rr hm hxk hhl
   obtain ⟨q1,hq1⟩:∃q,m.c.length=q:=⟨_,rfl⟩
   obtain ⟨q2,hq2⟩:∃q,m.t.length=q:=⟨_,rfl⟩
   have HQ:=hide (And.intro hq1 hq2)
   rw [hq1,hq2] at HL
   rw [hq1] at p3
   rw [hq2] at p4
   clear hq1 hq2
   go_wp2_with fail
   refine HL.out.mono ?_
   rintro e w2 ⟨v4,rfl,in4,hb2⟩
   obtain ⟨vc,vt,mid,rfl,ic,it,k1,k2⟩:=in4
   obtain ⟨o3,c3,rfl,_⟩:=InL.rd (L:=layS) ic
   obtain ⟨o4,c4,rfl,_⟩:=InL.rd (L:=layS) it
   have HIN:Hid (QA wr.heap.size w2.heap.size w2 (agt m.id m.lim m.dr (.slice o3 m.c.length c3) (.slice o4 m.t.length c4)) m):=⟨_,_,wr.heap.size,mid,mid,w2.heap.size,rfl,by omega,ic,it,by
    cases o3 with
    |none=> exact .inl rfl
    |some a=> right;intro e;have h1:=ic.2 a.block rfl;have h2:=(it.1.lt a.block e.symm).1;omega⟩
   have hown2:=own_kept HO.out hb2
   have hln:((fillE layAh hs xs.length k).flatMap layAh.cs).length=xs.length * 5:=by rw [flat_length,fillE_len hk8 HHL.out];rfl
   obtain ⟨u0,hu0⟩:∃u,w2.cell? ⟨w.heap.size,k * 5,none⟩=some u:=⟨_,(hown2.cellAt (k * 5) (by omega)).trans (List.getElem?_eq_getElem (by omega))⟩
   have hf0:=hown2.frozenAt (k * 5)
   obtain ⟨u1,hu1⟩:∃u,w2.cell? ⟨w.heap.size,k * 5+1,none⟩=some u:=⟨_,(hown2.cellAt (k * 5+1) (by omega)).trans (List.getElem?_eq_getElem (by omega))⟩
   have hf1:=hown2.frozenAt (k * 5+1)
   obtain ⟨u2,hu2⟩:∃u,w2.cell? ⟨w.heap.size,k * 5+2,none⟩=some u:=⟨_,(hown2.cellAt (k * 5+2) (by omega)).trans (List.getElem?_eq_getElem (by omega))⟩
   have hf2:=hown2.frozenAt (k * 5+2)
   obtain ⟨u3,hu3⟩:∃u,w2.cell? ⟨w.heap.size,k * 5+3,none⟩=some u:=⟨_,(hown2.cellAt (k * 5+3) (by omega)).trans (List.getElem?_eq_getElem (by omega))⟩
   have hf3:=hown2.frozenAt (k * 5+3)
   obtain ⟨u4,hu4⟩:∃u,w2.cell? ⟨w.heap.size,k * 5+4,none⟩=some u:=⟨_,(hown2.cellAt (k * 5+4) (by omega)).trans (List.getElem?_eq_getElem (by omega))⟩
   have hf4:=hown2.frozenAt (k * 5+4)
   have HB2:=hide (HBr.out.trans (hb2.mono HBr.out.size))
   obtain ⟨L2,H2,hsn⟩:∃L2 H2,RwE elA (xs.take k++[m]) (w.heap.size+1) w2.heap.size w2 (hs++[⟨m.id,m.lim,m.dr,(o3,m.c.length,c3),(o4,m.t.length,c4)⟩]) L2 H2:=⟨_,_,HR.out.kept hb2|>.snoc (l2:=wr.heap.size) (h2:=w2.heap.size) (y:=⟨m.id,m.lim,m.dr,(o3,m.c.length,c3),(o4,m.t.length,c4)⟩) (x:=m) (Nat.le_refl _) (by omega) hb2.size (show elA.Q wr.heap.size w2.heap.size w2 (elA.val ⟨m.id,m.lim,m.dr,(o3,m.c.length,c3),(o4,m.t.length,c4)⟩) m from HIN.out)⟩
   rw [←HS.out] at hsn
   have ST:=hide (storedA (k:=k) ⟨m.id,m.lim,m.dr,(o3,m.c.length,c3),(o4,m.t.length,c4)⟩ (Nat.le_refl w.heap.size) hown2 HB2.out)
   have HF:=hide (fillE_set (L:=layAh) HW.out HHL.out ⟨m.id,m.lim,m.dr,(o3,m.c.length,c3),(o4,m.t.length,c4)⟩)
   have HS2:=hide hsn
   have hs5:w.heap.size+1≤w2.heap.size:=by have:=hb2.size;omega
   have HQ1:=HQ.out.1
   have HQ2:=HQ.out.2
   rw [HQ1,HQ2] at ST HF HS2 ⊢
   clear HQ1 HQ2 hown2 hb2 hln hsn ic it k1 k2 p0 p1 p2 p3 p4 HL
   go_wp2
   go_roundw
   case rel=>
    refine ⟨k+1,hs++[⟨m.id,m.lim,m.dr,(o3,q1,c3),(o4,q2,c4)⟩],L2,H2,by omega,by go_num,(by have h:=ST.out.1;rw [HF.out] at h;exact h), ?_,ST.out.2.1,by simpa using hs5⟩
    exact RwE.mono (HS2.out.step ST.out.2.2 (fun i hi=> .inl (HS2.out.bd i hi).1)) (Nat.le_refl _) (by simp)
   case measure=> simp [intOf];omega
  ·have e:k=xs.length:=by omega
   subst e
   go_wp2
   go_ret
   have h2:=HR.out
   rw [List.take_length] at h2
   exact ⟨_,rfl,InE.filled HO.out h2 (by omega),HBr.out⟩
theorem eqAgentS_same (v1 v2:Value) (xs:List Am) (w:World) (h1:RiE elA 0 w.heap.size w v1 xs) (h2:RiE elA 0 w.heap.size w v2 xs) (hl:xs.length≤1048576) (hx:∀i,i < xs.length→(xs.getD i amD).c.length+(xs.getD i amD).t.length≤1048576):
  Calls Tryz.prog 51 #[v1,v2] w fun e w'=> e=.returned (.bool true)∧Below w.heap.size w w':=by
 obtain ⟨oa,ca,ev1⟩:=h1.len
 obtain ⟨ob,cb,ev2⟩:=h2.len
 subst ev1 ev2
 go_enter Tryz.func51,Tryz.ntmps51
 go_wp2
 go_loopw [5] (fun i wr=> ∃k:Nat,k≤xs.length∧i=.int .i64 k∧Hid (Below w.heap.size w wr))
  (fun i _=> xs.length - (intOf i).toNat)
 case atStart=> exact ⟨0,Nat.zero_le _,rfl,Below.refl _ _⟩
 case round=>
  obtain ⟨k,hk,rfl,HB⟩:=hrel
  by_cases hlt:k < xs.length
  ·have z1:(k:Int) < (xs.length:Int):=by omega
   obtain ⟨m,hm⟩:∃m,xs.getD k amD=m:=⟨_,rfl⟩
   have hxk:=hx k hlt
   rw [hm] at hxk
   obtain ⟨b1,off1,o1,c1,o2,c2,rfl,hb1,p0,p1,p2,p3,p4,g1,_⟩:=RiA.cells h1 k hlt hm
   obtain ⟨b2,off2,o3,c3,o4,c4,rfl,hb2,r0,r1,r2,r3,r4,g2,_⟩:=RiA.cells h2 k hlt hm
   have HE:Hid (∀W,Below w.heap.size w W→Calls Tryz.prog 108 #[agt m.id m.lim m.dr (.slice o1 m.c.length c1) (.slice o2 m.t.length c2),agt m.id m.lim m.dr (.slice o3 m.c.length c3) (.slice o4 m.t.length c4)] W fun e w'=> e=.returned (.bool true)∧Below W.heap.size W w'):=fun W hW=> eqAgent_sh _ _ m W (g1.on hW) (g2.on hW) hxk
   replace p0:=bCA HB.out p0 hb1
   replace p1:=bCA HB.out p1 hb1
   replace p2:=bCA HB.out p2 hb1
   replace p3:=bCA HB.out p3 hb1
   replace p4:=bCA HB.out p4 hb1
   replace r0:=bCA HB.out r0 hb2
   replace r1:=bCA HB.out r1 hb2
   replace r2:=bCA HB.out r2 hb2
   replace r3:=bCA HB.out r3 hb2
   replace r4:=bCA HB.out r4 hb2
   have H1:=hide h1
   have H2:=hide h2
   have hs1:b1 < wr.heap.size:=Nat.lt_of_lt_of_le hb1 HB.out.size
   have hs2:b2 < wr.heap.size:=Nat.lt_of_lt_of_le hb2 HB.out.size
   obtain ⟨q1,hq1⟩:∃q,m.c.length=q:=⟨_,rfl⟩
   obtain ⟨q2,hq2⟩:∃q,m.t.length=q:=⟨_,rfl⟩
   rw [hq1,hq2] at HE
   rw [hq1] at p3 r3
   rw [hq2] at p4 r4
   clear hq1 hq2 g1 g2 h1 h2 hm hxk hx
   go_wp2
   go_region_held3 (fun w'=> w'.cell? ⟨b1,off1+k * 5,none⟩=some (.int .i64 m.id)∧w'.cell? ⟨b1,off1+k * 5+1,none⟩=some (.int .i64 m.lim)∧w'.cell? ⟨b1,off1+k * 5+2,none⟩=some (.bool m.dr)∧w'.cell? ⟨b1,off1+k * 5+3,none⟩=some (.slice o1 q1 c1)∧w'.cell? ⟨b1,off1+k * 5+4,none⟩=some (.slice o2 q2 c2)∧w'.cell? ⟨b2,off2+k * 5,none⟩=some (.int .i64 m.id)∧w'.cell? ⟨b2,off2+k * 5+1,none⟩=some (.int .i64 m.lim)∧w'.cell? ⟨b2,off2+k * 5+2,none⟩=some (.bool m.dr)∧w'.cell? ⟨b2,off2+k * 5+3,none⟩=some (.slice o3 q1 c3)∧w'.cell? ⟨b2,off2+k * 5+4,none⟩=some (.slice o4 q2 c4)) (first|exact ⟨p0,p1,p2,p3,p4,r0,r1,r2,r3,r4⟩) (first|(go_at_call 108;refine (HE.out _ (Below.drew HB.out)).mono ?_;rintro e w2 ⟨rfl,hb3⟩;replace hb3:Below wr.heap.size wr w2:=(Below.drew (Below.refl _ _)).trans hb3;have p0:=bCA hb3 p0 hs1;have p1:=bCA hb3 p1 hs1;have p2:=bCA hb3 p2 hs1;have p3:=bCA hb3 p3 hs1;have p4:=bCA hb3 p4 hs1;have r0:=bCA hb3 r0 hs2;have r1:=bCA hb3 r1 hs2;have r2:=bCA hb3 r2 hs2;have r3:=bCA hb3 r3 hs2;have r4:=bCA hb3 r4 hs2))
   have HB3:=hide (HB.out.trans (hb3.mono HB.out.size))
   clear hb3 p0 p1 p2 p3 p4 r0 r1 r2 r3 r4
   go_wp2
   go_roundw
   case rel=> exact ⟨k+1,by omega,by go_num,HB3.out⟩
   case measure=> simp [intOf];omega
  ·have e:k=xs.length:=by omega
   subst e
   go_wp2
   go_ret
   exact ⟨rfl,HB.out⟩
end Go.Proofs.YtgplppfbinfelaaGreat
