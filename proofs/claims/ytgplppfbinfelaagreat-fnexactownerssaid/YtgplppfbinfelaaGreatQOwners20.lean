/- Several texts in one: ShAs, ShAs2. -/
import Derived.Test.YtgplppfbinfelaaGreatQOwners18
import Derived.Test.YtgplppfbinfelaaGreatQOwners19
namespace Go.Proofs.YtgplppfbinfelaaGreat
open Go.ChangeShapes Go.WideShapes Go.ChangeAt Go.RowKit Go.Joins
set_option linter.unusedVariables false
set_option linter.unusedSimpArgs false
set_option maxRecDepth 100000
set_option maxHeartbeats 40000000
theorem bCA {C b j:Nat} {w w':World} {u:Value} (h:Below C w w') (hc:w.cell? ⟨b,j,none⟩=some u) (hz:b < C):w'.cell? ⟨b,j,none⟩=some u:=(h.cell (p:=⟨b,j,none⟩) hz).trans hc
structure Ah where
 id:Int
 lim:Int
 dr:Bool
 c:Hd
 t:Hd
def Q1D:Lay Ah:=⟨5,fun h=> [.int .i64 h.id,.int .i64 h.lim,.bool h.dr,.slice h.c.1 h.c.2.1 h.c.2.2,.slice h.t.1 h.t.2.1 h.t.2.2],⟨0,0,false,(none,0,0),(none,0,0)⟩,fun _=> rfl⟩
abbrev amD:Am:=⟨0,0,false,[],[]⟩
abbrev Qhg (h:Ah):Value:=agt h.id h.lim h.dr (.slice h.c.1 h.c.2.1 h.c.2.2) (.slice h.t.1 h.t.2.1 h.t.2.2)
def RiA (lo hi:Nat) (w:World) (v:Value) (m:Am):Prop:=∃o1 c1 o2 c2,v=agt m.id m.lim m.dr (.slice o1 m.c.length c1) (.slice o2 m.t.length c2)∧RiV Q0w lo hi w (.slice o1 m.c.length c1) m.c∧RiV Q0w lo hi w (.slice o2 m.t.length c2) m.t
def QA (lo hi:Nat) (w:World) (v:Value) (m:Am):Prop:=∃v1 v2 a b a' b',v=agt m.id m.lim m.dr v1 v2∧(lo≤a∧b≤hi∧lo≤a'∧b'≤hi)∧InL Q0w 165 a b w v1 m.c∧InL Q0w 165 a' b' w v2 m.t∧(v1.ownBlock=none∨v1.ownBlock≠v2.ownBlock)
theorem RiA.rs:Stps RiA:=⟨fun ⟨o1,c1,o2,c2,e,h1,h2⟩ s hd=> ⟨o1,c1,o2,c2,e,h1.step s hd,h2.step s hd⟩⟩
theorem RiA.rm:Monos RiA:=⟨fun ⟨o1,c1,o2,c2,e,h1,h2⟩ k1 k2=> ⟨o1,c1,o2,c2,e,h1.mono k1 k2,h2.mono k1 k2⟩⟩
theorem QA.qs:Stps QA:=⟨fun ⟨v1,v2,a,b,a',b',e,k,h1,h2,h3⟩ s hd=> ⟨v1,v2,a,b,a',b',e,k,InRow.step h1 s (by omega),InRow.step h2 s (by omega),h3⟩⟩
theorem QA.qr {lo hi:Nat} {w:World} {v:Value} {m:Am} (h:QA lo hi w v m):RiA lo hi w v m:=by
 obtain ⟨v1,v2,a,b,a',b',e,k,h1,h2,_⟩:=h
 obtain ⟨o1,c1,e1,r1⟩:=InRow.ri h1
 obtain ⟨o2,c2,e2,r2⟩:=InRow.ri h2
 subst e1 e2
 exact ⟨o1,c1,o2,c2,e,RiV.mono ⟨o1,c1,rfl,r1⟩ k.1 k.2.1,RiV.mono ⟨o2,c2,rfl,r2⟩ k.2.2.1 k.2.2.2⟩
def elA:El Ah Am:=⟨Q1D,Qhg,RiA,QA,amD,by decide,RiA.rs,RiA.rm,QA.qs,QA.qr⟩
theorem RiA.rd {C:Nat} {w:World} {v:Value} {m:Am} (h:RiA 0 C w v m):RdA C w v m:=by
 obtain ⟨o1,c1,o2,c2,e,⟨o1',c1',e1,r1⟩,⟨o2',c2',e2,r2⟩⟩:=h
 exact ⟨_,_,e,⟨o1',c1',e1,r1.rd⟩,⟨o2',c2',e2,r2.rd⟩⟩
theorem RiA.on {w w':World} {v:Value} {m:Am} (h:RiA 0 w.heap.size w v m) (hb:Below w.heap.size w w'):RdA w'.heap.size w' v m:=
 (RiA.rm.go (RiA.rs.go h (Stp.of (lo:=0) (hi:=0) hb) (.inl (Kcq _))) (Kaq _) hb.size).rd
theorem RiA.cells {a C:Nat} {w:World} {o:Option Addr} {n c:Nat} {xs:List Am} (h:RiE elA a C w (.slice o n c) xs) (i:Nat) (hi:i < xs.length) {m:Am} (hm:xs.getD i amD=m):
  ∃b off o1 c1 o2 c2,o=some ⟨b,off,none⟩∧b < C∧w.cell? ⟨b,off+i * 5,none⟩=some (.int .i64 m.id)∧w.cell? ⟨b,off+i * 5+1,none⟩=some (.int .i64 m.lim)∧w.cell? ⟨b,off+i * 5+2,none⟩=some (.bool m.dr)∧w.cell? ⟨b,off+i * 5+3,none⟩=some (.slice o1 m.c.length c1)∧w.cell? ⟨b,off+i * 5+4,none⟩=some (.slice o2 m.t.length c2)∧RiA a C w (agt m.id m.lim m.dr (.slice o1 m.c.length c1) (.slice o2 m.t.length c2)) m∧RiV Q0w a C w (.slice o1 m.c.length c1) m.c∧RiV Q0w a C w (.slice o2 m.t.length c2) m.t:=by
 obtain ⟨b,off,y,rfl,hb,hc,hr⟩:=h.at i hi
 rw [show xs.getD i elA.d=m from hm] at hr
 obtain ⟨o1,c1,o2,c2,e,r1,r2⟩:=hr
 have e':Value.agg #[.int .i64 y.id,.int .i64 y.lim,.bool y.dr,.slice y.c.1 y.c.2.1 y.c.2.2,.slice y.t.1 y.t.2.1 y.t.2.2]=Value.agg #[.int .i64 m.id,.int .i64 m.lim,.bool m.dr,.slice o1 m.c.length c1,.slice o2 m.t.length c2]:=e
 simp only [Value.agg.injEq,Array.mk.injEq,List.cons.injEq,and_true] at e'
 obtain ⟨e0,e1,e2,e3,e4⟩:=e'
 have h0:w.cell? ⟨b,off+i * 5,none⟩=some _:=hc 0 (by decide)
 rw [e0] at h0
 have h1:w.cell? ⟨b,off+i * 5+1,none⟩=some _:=hc 1 (by decide)
 rw [e1] at h1
 have h2:w.cell? ⟨b,off+i * 5+2,none⟩=some _:=hc 2 (by decide)
 rw [e2] at h2
 have h3:w.cell? ⟨b,off+i * 5+3,none⟩=some _:=hc 3 (by decide)
 rw [e3] at h3
 have h4:w.cell? ⟨b,off+i * 5+4,none⟩=some _:=hc 4 (by decide)
 rw [e4] at h4
 exact ⟨b,off,o1,c1,o2,c2,rfl,hb,h0,h1,h2,h3,h4,⟨o1,c1,o2,c2,rfl,r1,r2⟩,r1,r2⟩
def Q85 (xs:List Am) (i:Nat):Nat:=(xs.getD i amD).c.length+(xs.getD i amD).t.length
def Qft (xs:List Am):Nat:=Q0G (Q85 xs) xs.length
def Qgt (xs:List Am):Prop:=xs.length≤maxLen∧∀i,i < xs.length→(xs.getD i amD).c.length≤maxLen∧(xs.getD i amD).t.length≤maxLen
theorem QcM (m:Am) (o1 o2:Option Addr) (c1 c2:Nat) (n:Int) (w:World) (hl:m.c.length≤maxLen) (hg:m.t.length≤maxLen) (h0:0≤n) (h1:n≤1048576):
  Calls Tryz.prog 86 #[agt m.id m.lim m.dr (.slice o1 m.c.length c1) (.slice o2 m.t.length c2),.int .i64 n] w fun e w'=> e=.returned (.int .i64 (if n - m.c.length - m.t.length < 0 then -1 else n - m.c.length - m.t.length))∧Below w.heap.size w w':=by
 obtain ⟨l1,e1⟩:∃q,m.c.length=q:=⟨_,rfl⟩
 obtain ⟨l2,e2⟩:∃q,m.t.length=q:=⟨_,rfl⟩
 rw [e1] at hl ⊢
 rw [e2] at hg ⊢
 clear e1 e2
 have hs1:=fun W=> Q6c o1 l1 c1 n W hl h0 h1
 have hb0:Below w.heap.size w (w.alloc (.cells #[.int .i64 m.id,.int .i64 m.lim,.bool m.dr,.slice o1 l1 c1,.slice o2 l2 c2] 151)):=(Below.refl _ _).alloc (Kaq _) _
 have hx:=World.alloc_heap_new w (.cells #[.int .i64 m.id,.int .i64 m.lim,.bool m.dr,.slice o1 l1 c1,.slice o2 l2 c2] 151)
 have hz:w.heap.size < (w.alloc (.cells #[.int .i64 m.id,.int .i64 m.lim,.bool m.dr,.slice o1 l1 c1,.slice o2 l2 c2] 151)).heap.size:=by simp
 have z3:(w.alloc (.cells #[.int .i64 m.id,.int .i64 m.lim,.bool m.dr,.slice o1 l1 c1,.slice o2 l2 c2] 151)).cell? ⟨w.heap.size,3,none⟩=some (.slice o1 l1 c1):=Q02 hx 3 _ rfl
 by_cases h:n - l1 < 0
 ·rw [if_pos h] at hs1
  rw [if_pos (by omega)]
  go_enter Tryz.func86,Tryz.ntmps86
  go_wp2_with fail
  refine (hs1 _).mono ?_
  rintro e w1 ⟨rfl,hb1⟩
  have HB:=Q00 (hb0.trans (hb1.mono (Nat.le_of_lt hz)))
  clear hb1 hb0 hx z3
  go_wp2
  go_ret
  exact ⟨rfl,HB.out⟩
 ·rw [if_neg h] at hs1
  have hs2:=fun W=> Q6c o2 l2 c2 (n - l1) W hg (by omega) (by omega)
  obtain ⟨q,hq⟩:∃q:Int,(if n - l1 - l2 < 0 then -1 else n - l1 - l2)=q:=⟨_,rfl⟩
  rw [hq] at hs2 ⊢
  have HQ:=Q00 hq
  clear hq
  have hnl:¬(n - (l1:Int) < 0):=h
  go_enter Tryz.func86,Tryz.ntmps86
  go_wp2_with fail
  refine (hs1 _).mono ?_
  rintro e w1 ⟨rfl,hb1⟩
  have HB:=Q00 (hb0.trans (hb1.mono (Nat.le_of_lt hz)))
  have z4:w1.cell? ⟨w.heap.size,4,none⟩=some (.slice o2 l2 c2):=Q02 ((hb1.block _ hz).trans hx) 4 _ rfl
  clear hb1 hb0 hx z3 hs1
  go_wp2_with fail
  refine (hs2 _).mono ?_
  rintro e w2 ⟨rfl,hb2⟩
  have HB2:=Q00 (HB.out.trans (hb2.mono HB.out.size))
  clear hb2 z4 hs2
  by_cases hqn:q < 0
  ·have HQ1:Hid (q= -1):=by have:=HQ.out;unfold Hid;split at this <;> omega
   go_wp2
   go_ret
   exact ⟨by rw [HQ1.out];rfl,HB2.out⟩
  ·go_wp2
   go_ret
   exact ⟨rfl,HB2.out⟩
theorem Q8A (v:Value) (xs:List Am) (n:Int) (w:World) (hR:RiE elA 0 w.heap.size w v xs) (hl:Qgt xs) (h0:0≤n) (h1:n≤1048576):
  Calls Tryz.prog 38 #[v,.int .i64 n] w fun e w'=> (e=.returned (.int .i64 (-1))∨∃z:Int,e=.returned (.int .i64 z)∧0≤z∧z≤n∧(xs.length:Int)+(Qft xs:Int)≤n)∧Below w.heap.size w w':=by
 obtain ⟨o,cap,ev⟩:=hR.len
 subst ev
 obtain ⟨hl0,hx⟩:=hl
 have hl':=hl0
 unfold maxLen at hl'
 by_cases h:n - xs.length < 0
 ·go_enter Tryz.func38,Tryz.ntmps38
  go_wp2
  go_ret
  exact ⟨.inl rfl,Below.refl _ _⟩
 ·go_enter Tryz.func38,Tryz.ntmps38
  go_wp2
  go_loopw [1,5] (fun n' i wr=> ∃(k:Nat) (z:Int),k≤xs.length∧i=.int .i64 (k:Int)∧n'=.int .i64 z∧0≤z∧z≤n - (xs.length:Int) - (Q0G (Q85 xs) k:Int)∧Hid (Below w.heap.size w wr))
   (fun _ i _=> xs.length - (intOf i).toNat)
  case atStart=> exact ⟨0,n - xs.length,Kcq _,rfl,rfl,by omega,by simp [Q0G],Below.refl _ _⟩
  case round=>
   obtain ⟨k,z,hk,rfl,rfl,hz0,hz1,HBr⟩:=hrel
   by_cases hlt:k < xs.length
   ·obtain ⟨m,hm⟩:∃m,xs.getD k amD=m:=⟨_,rfl⟩
    obtain ⟨b,off,o1,c1,o2,c2,rfl,hb,p0,p1,p2,p3,p4,_⟩:=RiA.cells hR k hlt hm
    have hxk:=hx k hlt
    rw [hm] at hxk
    have hsn:(0:Int)≤(Q0G (Q85 xs) k:Int):=by omega
    have HZ:=Q00 (QcM m o1 o2 c1 c2 z wr hxk.1 hxk.2 hz0 (by omega))
    have HSU:=Q00 (show Q0G (Q85 xs) (k+1)=Q0G (Q85 xs) k+(m.c.length+m.t.length) by rw [←hm];rfl)
    replace p0:=bCA HBr.out p0 hb
    replace p1:=bCA HBr.out p1 hb
    replace p2:=bCA HBr.out p2 hb
    replace p3:=bCA HBr.out p3 hb
    replace p4:=bCA HBr.out p4 hb
    have HR:=Q00 hR
    have z1:(k:Int) < (xs.length:Int):=by omega
    clear hxk hR hx hm
    obtain ⟨q1,hq1⟩:∃q,m.c.length=q:=⟨_,rfl⟩
    obtain ⟨q2,hq2⟩:∃q,m.t.length=q:=⟨_,rfl⟩
    rw [hq1,hq2] at HZ HSU
    rw [hq1] at p3
    rw [hq2] at p4
    clear hq1 hq2
    generalize Q0G (Q85 xs) k=sk at *
    obtain ⟨y,hy⟩:∃y:Int,(if z - q1 - q2 < 0 then -1 else z - q1 - q2)=y:=⟨_,rfl⟩
    rw [hy] at HZ
    have HY:=Q00 hy
    clear hy
    go_wp2_with fail
    refine HZ.out.mono ?_
    rintro e w2 ⟨rfl,hb2⟩
    have HB2:=Q00 (HBr.out.trans (hb2.mono HBr.out.size))
    clear hb2 p0 p1 p2 p3 p4 HZ
    by_cases hyn:y < 0
    ·go_wp2
     go_ret
     exact ⟨.inl rfl,HB2.out⟩
    ·have hyn':¬(y < 0):=hyn
     go_wp2
     go_roundw
     case rel=> exact ⟨k+1,y,by omega,by go_num,rfl,by omega,(by have:=HY.out;rw [HSU.out];split at this <;> push_cast <;> omega),HB2.out⟩
     case measure=> simp [intOf];omega
   ·have e:k=xs.length:=by omega
    subst e
    have hsz:Q0G (Q85 xs) xs.length=Qft xs:=rfl
    rw [hsz] at hz1
    clear hsz
    go_wp2
    go_ret
    exact ⟨.inr ⟨z,rfl,hz0,by omega,by omega⟩,HBr.out⟩
theorem Qg2 {e:TypeId} {w wr:World} {base B g c n:Nat} {l:List Ah} {k:Nat} (h:Ah) (hg:B≤g) (hown:wr.ownsRow base e 5 (.slice (some ⟨g,0,none⟩) n c) n (l.flatMap Q1D.cs)) (hB:Below B w wr):
  (((((wr.setCell ⟨g,k * 5,none⟩ (.int .i64 h.id)).setCell ⟨g,k * 5+1,none⟩ (.int .i64 h.lim)).setCell ⟨g,k * 5+2,none⟩ (.bool h.dr)).setCell ⟨g,k * 5+3,none⟩ (.slice h.c.1 h.c.2.1 h.c.2.2)).setCell ⟨g,k * 5+4,none⟩ (.slice h.t.1 h.t.2.1 h.t.2.2)).ownsRow base e 5 (.slice (some ⟨g,0,none⟩) n c) n ((l.set k h).flatMap Q1D.cs)∧Below B w (((((wr.setCell ⟨g,k * 5,none⟩ (.int .i64 h.id)).setCell ⟨g,k * 5+1,none⟩ (.int .i64 h.lim)).setCell ⟨g,k * 5+2,none⟩ (.bool h.dr)).setCell ⟨g,k * 5+3,none⟩ (.slice h.c.1 h.c.2.1 h.c.2.2)).setCell ⟨g,k * 5+4,none⟩ (.slice h.t.1 h.t.2.1 h.t.2.2))∧Stp g (g+1) wr (((((wr.setCell ⟨g,k * 5,none⟩ (.int .i64 h.id)).setCell ⟨g,k * 5+1,none⟩ (.int .i64 h.lim)).setCell ⟨g,k * 5+2,none⟩ (.bool h.dr)).setCell ⟨g,k * 5+3,none⟩ (.slice h.c.1 h.c.2.1 h.c.2.2)).setCell ⟨g,k * 5+4,none⟩ (.slice h.t.1 h.t.2.1 h.t.2.2)):=by
 have q:=(((((hown.stored (k * 5) (.int .i64 h.id)).1.stored (k * 5+1) (.int .i64 h.lim)).1.stored (k * 5+2) (.bool h.dr)).1.stored (k * 5+3) (.slice h.c.1 h.c.2.1 h.c.2.2)).1.stored (k * 5+4) (.slice h.t.1 h.t.2.1 h.t.2.2)).1
 rw [Q35 Q1D rfl (a:=h) rfl] at q
 exact ⟨q,(((((hB.setCell (p:=⟨g,k * 5,none⟩) hg _).setCell (p:=⟨g,k * 5+1,none⟩) hg _).setCell (p:=⟨g,k * 5+2,none⟩) hg _).setCell (p:=⟨g,k * 5+3,none⟩) hg _).setCell (p:=⟨g,k * 5+4,none⟩) hg _),((((((Stp.refl wr).trans (Q06 _ g (k * 5) _)).trans (Q06 _ g (k * 5+1) _)).trans (Q06 _ g (k * 5+2) _)).trans (Q06 _ g (k * 5+3) _)).trans (Q06 _ g (k * 5+4) _))⟩
theorem QgU:(Tryz.prog.info? 87).map (fun i=> (i.zero,i.size,i.bytes))=some (some (.agg #[.int .i64 0,.int .i64 0,.bool false,.slice none 0 0,.slice none 0 0]),5,72):=by kernel_rfl
theorem Q9j (v:Value) (xs:List Am) (w:World) (hR:RiE elA 0 w.heap.size w v xs) (hlen:xs.length≤1048576) (hx:∀i,i < xs.length→(xs.getD i amD).c.length+(xs.getD i amD).t.length≤1048576):
  Calls Tryz.prog 46 #[v] w fun e w'=> ∃v',e=.returned v'∧InE elA 87 w.heap.size w'.heap.size w' v' xs∧Below w.heap.size w w':=by
 obtain ⟨o,cap,ev⟩:=hR.len
 subst ev
 obtain ⟨i0,hi,hz0,hz1,hz2⟩:=info_parts QgU
 have HR0:=Q00 hR
 have HX:=Q00 hx
 clear hR hx
 go_enter Tryz.func46,Tryz.ntmps46
 go_wp2_with (at_make;refine wpList_make_full _ rfl _ _ 52 rfl w.heap.size 87 i0 (agt 0 0 false (.slice none 0 0) (.slice none 0 0)) 5 Tryz.underlying52 hi hz0 hz1 _ _ _ _ xs.length rfl rfl rfl rfl ?b2 ?b3 ?b4 ?_)
 case b2=> rw [hz2];omega
 case b3=> unfold maxLen;omega
 case b4=> simp
 intro w3 hown hgrow
 have HB3:=Q00 (show Below w.heap.size w w3 from (Below.refl _ _).grown hgrow (Kaq _) (fun k h=> by cases h))
 have HO3:Hid (w3.ownsRow w.heap.size 87 5 (.slice (some ⟨w.heap.size,0,none⟩) xs.length xs.length) xs.length ((Q2I Q1D [] xs.length 0).flatMap Q1D.cs)):=by
  rw [Q4Q,←Q0S Q1D (agt 0 0 false (.slice none 0 0) (.slice none 0 0)) rfl];exact hown
 have hs3:w.heap.size+1≤w3.heap.size:=(hown.lt w.heap.size rfl).2
 clear hown hgrow
 go_wp2
 go_loopw [4] (fun iv wr=> ∃(k:Nat) (hs:List Ah) (L H:Nat→Nat),k≤xs.length∧iv=.int .i64 (k:Int)∧Hid (wr.ownsRow w.heap.size 87 5 (.slice (some ⟨w.heap.size,0,none⟩) xs.length xs.length) xs.length ((Q2I Q1D hs xs.length k).flatMap Q1D.cs))∧Hid (RwE elA (xs.take k) (w.heap.size+1) wr.heap.size wr hs L H)∧Hid (Below w.heap.size w wr)∧w.heap.size+1≤wr.heap.size)
  (fun iv _=> xs.length - (intOf iv).toNat)
 case atStart=> exact ⟨0,[],fun _=> 0,fun _=> 0,Kcq _,rfl,HO3.out,by rw [List.take_zero];exact RwE.nil _ _ _ _ _ _,HB3.out,hs3⟩
 case round=>
  obtain ⟨k,hs,L,H,hk8,rfl,HO,HR,HBr,hsr⟩:=hrel
  clear HO3 HB3 hs3
  have hhl:hs.length=k:=by have h1:=HR.out.len;rw [List.length_take] at h1;omega
  have HHL:=Q00 hhl
  by_cases hlt:k < xs.length
  ·have z1:(k:Int) < (xs.length:Int):=by omega
   obtain ⟨m,hm⟩:∃m,xs.getD k amD=m:=⟨_,rfl⟩
   have HS:=Q00 (Q3g (xs:=xs) amD hlt)
   have hxk:=HX.out k hlt
   rw [hm] at HS hxk
   obtain ⟨b,off,o1,c1,o2,c2,rfl,hbl,p0,p1,p2,p3,p4,rr,_⟩:=RiA.cells HR0.out k hlt hm
   have HL:=Q00 (Qct _ m wr (rr.on HBr.out) hxk)
   replace p0:=bCA HBr.out p0 hbl
   replace p1:=bCA HBr.out p1 hbl
   replace p2:=bCA HBr.out p2 hbl
   replace p3:=bCA HBr.out p3 hbl
   replace p4:=bCA HBr.out p4 hbl
   have HW:=Q00 hlt
   clear rr hm hxk hhl
   obtain ⟨q1,hq1⟩:∃q,m.c.length=q:=⟨_,rfl⟩
   obtain ⟨q2,hq2⟩:∃q,m.t.length=q:=⟨_,rfl⟩
   have HQ:=Q00 (And.intro hq1 hq2)
   rw [hq1,hq2] at HL
   rw [hq1] at p3
   rw [hq2] at p4
   clear hq1 hq2
   go_wp2_with fail
   refine HL.out.mono ?_
   rintro e w2 ⟨v4,rfl,in4,hb2⟩
   obtain ⟨vc,vt,mid,rfl,ic,it,k1,k2⟩:=in4
   obtain ⟨o3,c3,rfl,_⟩:=InL.rd (L:=Q0w) ic
   obtain ⟨o4,c4,rfl,_⟩:=InL.rd (L:=Q0w) it
   have HIN:Hid (QA wr.heap.size w2.heap.size w2 (agt m.id m.lim m.dr (.slice o3 m.c.length c3) (.slice o4 m.t.length c4)) m):=⟨_,_,wr.heap.size,mid,mid,w2.heap.size,rfl,by omega,ic,it,by
    cases o3 with
    |none=> exact .inl rfl
    |some a=> right;intro e;have h1:=ic.2 a.block rfl;have h2:=(it.1.lt a.block e.symm).1;omega⟩
   have hown2:=Q0b HO.out hb2
   have hln:((Q2I Q1D hs xs.length k).flatMap Q1D.cs).length=xs.length * 5:=by rw [Q0e,Q6d hk8 HHL.out];rfl
   obtain ⟨u0,hu0⟩:∃u,w2.cell? ⟨w.heap.size,k * 5,none⟩=some u:=⟨_,(hown2.cellAt (k * 5) (by omega)).trans (List.getElem?_eq_getElem (by omega))⟩
   have hf0:=hown2.frozenAt (k * 5)
   obtain ⟨u1,hu1⟩:∃u,w2.cell? ⟨w.heap.size,k * 5+1,none⟩=some u:=⟨_,(hown2.cellAt (k * 5+1) (by omega)).trans (List.getElem?_eq_getElem (by omega))⟩
   have hf1:=hown2.frozenAt (k * 5+1)
   obtain ⟨u2,hu2⟩:∃u,w2.cell? ⟨w.heap.size,k * 5+2,none⟩=some u:=⟨_,(hown2.cellAt (k * 5+2) (by omega)).trans (List.getElem?_eq_getElem (by omega))⟩
   have hf2:=hown2.frozenAt (k * 5+2)
   obtain ⟨u3,hu3⟩:∃u,w2.cell? ⟨w.heap.size,k * 5+3,none⟩=some u:=⟨_,(hown2.cellAt (k * 5+3) (by omega)).trans (List.getElem?_eq_getElem (by omega))⟩
   have hf3:=hown2.frozenAt (k * 5+3)
   obtain ⟨u4,hu4⟩:∃u,w2.cell? ⟨w.heap.size,k * 5+4,none⟩=some u:=⟨_,(hown2.cellAt (k * 5+4) (by omega)).trans (List.getElem?_eq_getElem (by omega))⟩
   have hf4:=hown2.frozenAt (k * 5+4)
   have HB2:=Q00 (HBr.out.trans (hb2.mono HBr.out.size))
   obtain ⟨L2,H2,hsn⟩:∃L2 H2,RwE elA (xs.take k++[m]) (w.heap.size+1) w2.heap.size w2 (hs++[⟨m.id,m.lim,m.dr,(o3,m.c.length,c3),(o4,m.t.length,c4)⟩]) L2 H2:=⟨_,_,HR.out.kept hb2|>.snoc (l2:=wr.heap.size) (h2:=w2.heap.size) (y:=⟨m.id,m.lim,m.dr,(o3,m.c.length,c3),(o4,m.t.length,c4)⟩) (x:=m) (Kaq _) (by omega) hb2.size (show elA.Q wr.heap.size w2.heap.size w2 (elA.val ⟨m.id,m.lim,m.dr,(o3,m.c.length,c3),(o4,m.t.length,c4)⟩) m from HIN.out)⟩
   rw [←HS.out] at hsn
   have ST:=Q00 (Qg2 (k:=k) ⟨m.id,m.lim,m.dr,(o3,m.c.length,c3),(o4,m.t.length,c4)⟩ (Kaq w.heap.size) hown2 HB2.out)
   have HF:=Q00 (Q6g (L:=Q1D) HW.out HHL.out ⟨m.id,m.lim,m.dr,(o3,m.c.length,c3),(o4,m.t.length,c4)⟩)
   have HS2:=Q00 hsn
   have hs5:w.heap.size+1≤w2.heap.size:=by have:=hb2.size;omega
   have HQ1:=HQ.out.1
   have HQ2:=HQ.out.2
   rw [HQ1,HQ2] at ST HF HS2 ⊢
   clear HQ1 HQ2 hown2 hb2 hln hsn ic it k1 k2 p0 p1 p2 p3 p4 HL
   go_wp2
   go_roundw
   case rel=>
    refine ⟨k+1,hs++[⟨m.id,m.lim,m.dr,(o3,q1,c3),(o4,q2,c4)⟩],L2,H2,by omega,by go_num,(by have h:=ST.out.1;rw [HF.out] at h;exact h), ?_,ST.out.2.1,by simpa using hs5⟩
    exact RwE.mono (HS2.out.step ST.out.2.2 (fun i hi=> .inl (HS2.out.bd i hi).1)) (Kaq _) (by simp)
   case measure=> simp [intOf];omega
  ·have e:k=xs.length:=by omega
   subst e
   go_wp2
   go_ret
   have h2:=HR.out
   rw [List.take_length] at h2
   exact ⟨_,rfl,InE.filled HO.out h2 (by omega),HBr.out⟩
theorem Q8b (v1 v2:Value) (xs:List Am) (w:World) (h1:RiE elA 0 w.heap.size w v1 xs) (h2:RiE elA 0 w.heap.size w v2 xs) (hl:xs.length≤1048576) (hx:∀i,i < xs.length→(xs.getD i amD).c.length+(xs.getD i amD).t.length≤1048576):
  Calls Tryz.prog 51 #[v1,v2] w fun e w'=> e=.returned (.bool true)∧Below w.heap.size w w':=by
 obtain ⟨oa,ca,ev1⟩:=h1.len
 obtain ⟨ob,cb,ev2⟩:=h2.len
 subst ev1 ev2
 go_enter Tryz.func51,Tryz.ntmps51
 go_wp2
 go_loopw [5] (fun i wr=> ∃k:Nat,k≤xs.length∧i=.int .i64 k∧Hid (Below w.heap.size w wr))
  (fun i _=> xs.length - (intOf i).toNat)
 case atStart=> exact ⟨0,Kcq _,rfl,Below.refl _ _⟩
 case round=>
  obtain ⟨k,hk,rfl,HB⟩:=hrel
  by_cases hlt:k < xs.length
  ·have z1:(k:Int) < (xs.length:Int):=by omega
   obtain ⟨m,hm⟩:∃m,xs.getD k amD=m:=⟨_,rfl⟩
   have hxk:=hx k hlt
   rw [hm] at hxk
   obtain ⟨b1,off1,o1,c1,o2,c2,rfl,hb1,p0,p1,p2,p3,p4,g1,_⟩:=RiA.cells h1 k hlt hm
   obtain ⟨b2,off2,o3,c3,o4,c4,rfl,hb2,r0,r1,r2,r3,r4,g2,_⟩:=RiA.cells h2 k hlt hm
   have HE:Hid (∀W,Below w.heap.size w W→Calls Tryz.prog 108 #[agt m.id m.lim m.dr (.slice o1 m.c.length c1) (.slice o2 m.t.length c2),agt m.id m.lim m.dr (.slice o3 m.c.length c3) (.slice o4 m.t.length c4)] W fun e w'=> e=.returned (.bool true)∧Below W.heap.size W w'):=fun W hW=> Qcl _ _ m W (g1.on hW) (g2.on hW) hxk
   replace p0:=bCA HB.out p0 hb1
   replace p1:=bCA HB.out p1 hb1
   replace p2:=bCA HB.out p2 hb1
   replace p3:=bCA HB.out p3 hb1
   replace p4:=bCA HB.out p4 hb1
   replace r0:=bCA HB.out r0 hb2
   replace r1:=bCA HB.out r1 hb2
   replace r2:=bCA HB.out r2 hb2
   replace r3:=bCA HB.out r3 hb2
   replace r4:=bCA HB.out r4 hb2
   have H1:=Q00 h1
   have H2:=Q00 h2
   have hs1:b1 < wr.heap.size:=Kbq hb1 HB.out.size
   have hs2:b2 < wr.heap.size:=Kbq hb2 HB.out.size
   obtain ⟨q1,hq1⟩:∃q,m.c.length=q:=⟨_,rfl⟩
   obtain ⟨q2,hq2⟩:∃q,m.t.length=q:=⟨_,rfl⟩
   rw [hq1,hq2] at HE
   rw [hq1] at p3 r3
   rw [hq2] at p4 r4
   clear hq1 hq2 g1 g2 h1 h2 hm hxk hx
   go_wp2
   go_region_held3 (fun w'=> w'.cell? ⟨b1,off1+k * 5,none⟩=some (.int .i64 m.id)∧w'.cell? ⟨b1,off1+k * 5+1,none⟩=some (.int .i64 m.lim)∧w'.cell? ⟨b1,off1+k * 5+2,none⟩=some (.bool m.dr)∧w'.cell? ⟨b1,off1+k * 5+3,none⟩=some (.slice o1 q1 c1)∧w'.cell? ⟨b1,off1+k * 5+4,none⟩=some (.slice o2 q2 c2)∧w'.cell? ⟨b2,off2+k * 5,none⟩=some (.int .i64 m.id)∧w'.cell? ⟨b2,off2+k * 5+1,none⟩=some (.int .i64 m.lim)∧w'.cell? ⟨b2,off2+k * 5+2,none⟩=some (.bool m.dr)∧w'.cell? ⟨b2,off2+k * 5+3,none⟩=some (.slice o3 q1 c3)∧w'.cell? ⟨b2,off2+k * 5+4,none⟩=some (.slice o4 q2 c4)) (first|exact ⟨p0,p1,p2,p3,p4,r0,r1,r2,r3,r4⟩) (first|(go_at_call 108;refine (HE.out _ (Below.drew HB.out)).mono ?_;rintro e w2 ⟨rfl,hb3⟩;replace hb3:Below wr.heap.size wr w2:=(Below.drew (Below.refl _ _)).trans hb3;have p0:=bCA hb3 p0 hs1;have p1:=bCA hb3 p1 hs1;have p2:=bCA hb3 p2 hs1;have p3:=bCA hb3 p3 hs1;have p4:=bCA hb3 p4 hs1;have r0:=bCA hb3 r0 hs2;have r1:=bCA hb3 r1 hs2;have r2:=bCA hb3 r2 hs2;have r3:=bCA hb3 r3 hs2;have r4:=bCA hb3 r4 hs2))
   have HB3:=Q00 (HB.out.trans (hb3.mono HB.out.size))
   clear hb3 p0 p1 p2 p3 p4 r0 r1 r2 r3 r4
   go_wp2
   go_roundw
   case rel=> exact ⟨k+1,by omega,by go_num,HB3.out⟩
   case measure=> simp [intOf];omega
  ·have e:k=xs.length:=by omega
   subst e
   go_wp2
   go_ret
   exact ⟨rfl,HB.out⟩
def QgL (kk:Int) (m:Am):Am:=⟨kk,kk+1,(kk+1+1) % 3==0,mkL QcH 5 (kk+1+1+1) m.c.length,mkL QcH 5 (kk+1+1+1+5 * (m.c.length:Int)) m.t.length⟩
def nA (xs:List Am) (i:Nat):Nat:=3+5 * ((xs.getD i amD).c.length+(xs.getD i amD).t.length)
def nAs (xs:List Am):Nat:=Q0G (nA xs) xs.length
def Qfi (k:Int) (xs:List Am) (j:Nat):Am:=QgL (k+(Q0G (nA xs) j:Int)) (xs.getD j amD)
def Qgd (k:Int) (xs:List Am):List Am:=(List.range xs.length).map (Qfi k xs)
theorem Qen (k:Int) (xs:List Am):(Qgd k xs).length=xs.length:=by simp [Qgd]
theorem QgF (xs:List Am) (i:Nat):Q0G (nA xs) i≤3 * i+5 * Q0G (Q85 xs) i:=by
 induction i with
 |zero=> simp [Q0G]
 |succ i ih=>
  have h1:Q0G (nA xs) (i+1)=Q0G (nA xs) i+nA xs i:=rfl
  have h2:Q0G (Q85 xs) (i+1)=Q0G (Q85 xs) i+Q85 xs i:=rfl
  rw [h1,h2]
  unfold nA Q85 at *
  omega
theorem Q6A (lo hi:Nat) (v:Value) (xs:List Am) (k:Int) (w:World) (hv:InE elA 87 lo hi w v xs) (h0:0≤k) (h1:k≤100000000) (hn:xs.length≤1048576) (hz:Qft xs≤1048576):
  Calls Tryz.prog 60 #[v,.int .i64 k] w fun e w'=> e=.returned (.int .i64 (k+(nAs xs:Int)))∧InE elA 87 lo hi w' v (Qgd k xs)∧Stp lo hi w w':=by
 obtain ⟨hs0,L,H,hrow,hrw,hout⟩:=hv
 rcases hrow.1.2 with ⟨rfl,h2⟩|⟨g,cap,cur,rfl,hg,_⟩
 ·have e:xs=[]:=List.eq_nil_of_length_eq_zero (by rw [←hrw.len];exact h2)
  subst e
  have H9:=Q00 (And.intro hrow (And.intro hrw hout))
  have hl0:hs0.length=0:=h2
  clear hrow hrw hout h2
  go_enter Tryz.func60,Tryz.ntmps60
  go_wp2
  refine wp_loop_rounds 1 ?_
  rw [rounds_succ]
  go_wp2
  go_ret
  exact ⟨by simp [nAs,Q0G],⟨hs0,L,H,H9.out.1,H9.out.2.1,fun i hi=> absurd hi (Nat.not_lt_zero _)⟩,Stp.refl _⟩
 ·have hlen:=hrw.len
  have hgw:g < w.heap.size:=(hrow.1.lt g rfl).2
  have hgl:lo≤g:=(hrow.1.lt g rfl).1
  have hgh:g < hi:=hrow.2 g rfl
  have HOUT:=Q00 (fun i hi=> hout i hi g rfl)
  have HSEP:=Q00 hrw.sep
  have HBD:=Q00 hrw.bd
  have HOB:Hid (Qbl (.slice (some ⟨g,0,none⟩) xs.length cap) xs.length L H):=fun i hi b e=> hout i hi b e
  have HR0:Hid (InL Q1D 87 lo hi w (.slice (some ⟨g,0,none⟩) xs.length cap) hs0):=by rw [←hlen];exact hrow
  have HW0:Hid (RwE elA (Q1w (Qfi k xs) xs amD 0) lo hi w hs0 L H):=by rw [Q3k];exact hrw
  rw [hlen]
  clear hrow hrw hout hlen hg
  go_enter Tryz.func60,Tryz.ntmps60
  go_wp2
  go_loopw [1,5] (fun q j wr=> ∃(i:Nat) (hs:List Ah),i≤xs.length∧j=.int .i64 (i:Int)∧q=.int .i64 (k+(Q0G (nA xs) i:Int))∧Hid (InL Q1D 87 lo hi wr (.slice (some ⟨g,0,none⟩) xs.length cap) hs)∧Hid (RwE elA (Q1w (Qfi k xs) xs amD i) lo hi wr hs L H)∧Hid (Stp lo hi w wr))
   (fun _ j _=> xs.length - (intOf j).toNat)
  case atStart=> exact ⟨0,hs0,Kcq _,rfl,by simp [Q0G],HR0.out,HW0.out,Stp.refl _⟩
  case round=>
   obtain ⟨i,hs,hi9,rfl,rfl,HROW,HRW,HST⟩:=hrel
   clear HR0 HW0
   by_cases hlt:i < xs.length
   ·skip
    have hsl:hs.length=xs.length:=by have:=HRW.out.len;rw [Q0L] at this;exact this
    obtain ⟨m,hm⟩:∃m,xs.getD i amD=m:=⟨_,rfl⟩
    obtain ⟨y,hy⟩:∃y,hs.getD i Q1D.d=y:=⟨_,rfl⟩
    have HY:=Q00 hy
    have hq:=HRW.out.row i (by rw [Q0L];exact hlt)
    rw [show (Q1w (Qfi k xs) xs amD i).getD i elA.d=m from (Q4f _ _ _ _ hlt).trans hm,show elA.L.d=Q1D.d from rfl,hy] at hq
    obtain ⟨v1,v2,a,b,a2,b2,e,kb,ic,it,hne⟩:=hq
    have e':Value.agg #[.int .i64 y.id,.int .i64 y.lim,.bool y.dr,.slice y.c.1 y.c.2.1 y.c.2.2,.slice y.t.1 y.t.2.1 y.t.2.2]=Value.agg #[.int .i64 m.id,.int .i64 m.lim,.bool m.dr,v1,v2]:=e
    simp only [Value.agg.injEq,Array.mk.injEq,List.cons.injEq,and_true] at e'
    obtain ⟨_,_,_,e1,e2⟩:=e'
    have hmk:Hid (Qfi k xs i=QgL (k+(Q0G (nA xs) i:Int)) m):=by unfold Hid Qfi;rw [hm]
    have HSU:=Q00 (show (Q0G (nA xs) (i+1):Int)=(Q0G (nA xs) i:Int)+(3+5 * (m.c.length:Int)+5 * (m.t.length:Int)) by rw [show Q0G (nA xs) (i+1)=Q0G (nA xs) i+nA xs i from rfl];unfold nA;rw [hm];push_cast;omega)
    have hbd:=QgF xs i
    have hle:=Q60 (Q85 xs) (Nat.le_of_lt hlt)
    have hat:=Q3f (Q85 xs) hlt
    rw [show Q85 xs i=m.c.length+m.t.length by unfold Q85;rw [hm]] at hat
    have hszx:Q0G (Q85 xs) xs.length≤1048576:=hz
    obtain ⟨kk,hkk⟩:∃q:Int,k+(Q0G (nA xs) i:Int)=q:=⟨_,rfl⟩
    have hk0:0≤kk∧kk≤200000000:=by omega
    have hl1:m.c.length≤1048576:=by omega
    have hl2:m.t.length≤1048576:=by omega
    have HKK:Hid (k+(Q0G (nA xs) (i+1):Int)=kk+1+1+1+5 * (m.c.length:Int)+5 * (m.t.length:Int)):=by unfold Hid;rw [HSU.out];omega
    rw [hkk] at hmk ⊢
    clear hkk HSU hbd hle hat hszx hm hy e
    have z1:(i:Int) < (xs.length:Int):=by omega
    have hbm:(kk+1+1).tmod 3=(kk+1+1) % 3:=Int.tmod_eq_emod_of_nonneg (by omega)
    obtain ⟨B,hB⟩:∃B,((kk+1+1) % 3==0)=B:=⟨_,rfl⟩
    have pf0:wr.frozen? ⟨g,i * 5,none⟩=false:=InL.frozE (HROW.out) (i * 5)
    obtain ⟨pu0,ph0⟩:∃z,wr.cell? ⟨g,i * 5,none⟩=some z:=InL.someE (L:=Q1D) (hs) (HROW.out) i 0 (by (try simp) <;> omega) (by decide)
    have pr0:InL Q1D 87 lo hi (wr.setCell ⟨g,i * 5,none⟩ (.int .i64 (kk))) (.slice (some ⟨g,0,none⟩) xs.length cap) (hs.set i { y with id:=kk }):=by
     have h:=InL.putE (L:=Q1D) (hs) (HROW.out) i 0 (by (try simp) <;> omega) (by decide) (.int .i64 (kk)) { y with id:=kk } (by rw [HY.out];rfl)
     exact h
    have pf1:(wr.setCell ⟨g,i * 5,none⟩ (.int .i64 (kk))).frozen? ⟨g,i * 5+1,none⟩=false:=InL.frozE (pr0) (i * 5+1)
    obtain ⟨pu1,ph1⟩:∃z,(wr.setCell ⟨g,i * 5,none⟩ (.int .i64 (kk))).cell? ⟨g,i * 5+1,none⟩=some z:=InL.someE (L:=Q1D) (hs.set i { y with id:=kk }) (pr0) i 1 (by (try simp) <;> omega) (by decide)
    have pr1:InL Q1D 87 lo hi ((wr.setCell ⟨g,i * 5,none⟩ (.int .i64 (kk))).setCell ⟨g,i * 5+1,none⟩ (.int .i64 (kk+1))) (.slice (some ⟨g,0,none⟩) xs.length cap) (hs.set i { y with id:=kk,lim:=kk+1 }):=by
     have h:=InL.putE (L:=Q1D) (hs.set i { y with id:=kk }) (pr0) i 1 (by (try simp) <;> omega) (by decide) (.int .i64 (kk+1)) { y with id:=kk,lim:=kk+1 } (by rw [Q0M (by omega)];rfl)
     rw [List.set_set] at h
     exact h
    have pf2:((wr.setCell ⟨g,i * 5,none⟩ (.int .i64 (kk))).setCell ⟨g,i * 5+1,none⟩ (.int .i64 (kk+1))).frozen? ⟨g,i * 5+2,none⟩=false:=InL.frozE (pr1) (i * 5+2)
    obtain ⟨pu2,ph2⟩:∃z,((wr.setCell ⟨g,i * 5,none⟩ (.int .i64 (kk))).setCell ⟨g,i * 5+1,none⟩ (.int .i64 (kk+1))).cell? ⟨g,i * 5+2,none⟩=some z:=InL.someE (L:=Q1D) (hs.set i { y with id:=kk,lim:=kk+1 }) (pr1) i 2 (by (try simp) <;> omega) (by decide)
    have pr2:InL Q1D 87 lo hi (((wr.setCell ⟨g,i * 5,none⟩ (.int .i64 (kk))).setCell ⟨g,i * 5+1,none⟩ (.int .i64 (kk+1))).setCell ⟨g,i * 5+2,none⟩ (.bool B)) (.slice (some ⟨g,0,none⟩) xs.length cap) (hs.set i { y with id:=kk,lim:=kk+1,dr:=B }):=by
     have h:=InL.putE (L:=Q1D) (hs.set i { y with id:=kk,lim:=kk+1 }) (pr1) i 2 (by (try simp) <;> omega) (by decide) (.bool B) { y with id:=kk,lim:=kk+1,dr:=B } (by rw [Q0M (by omega)];rfl)
     rw [List.set_set] at h
     exact h
    have c1:(((wr.setCell ⟨g,i * 5,none⟩ (.int .i64 (kk))).setCell ⟨g,i * 5+1,none⟩ (.int .i64 (kk+1))).setCell ⟨g,i * 5+2,none⟩ (.bool B)).cell? ⟨g,i * 5+3,none⟩=some v1:=by
     have h:=InL.cellE (L:=Q1D) (hs.set i { y with id:=kk,lim:=kk+1,dr:=B }) (pr2) i 3 (by (try simp) <;> omega) (by decide)
     rw [Q0M (by omega)] at h
     rw [←e1]
     exact h
    have c2:(((wr.setCell ⟨g,i * 5,none⟩ (.int .i64 (kk))).setCell ⟨g,i * 5+1,none⟩ (.int .i64 (kk+1))).setCell ⟨g,i * 5+2,none⟩ (.bool B)).cell? ⟨g,i * 5+4,none⟩=some v2:=by
     have h:=InL.cellE (L:=Q1D) (hs.set i { y with id:=kk,lim:=kk+1,dr:=B }) (pr2) i 4 (by (try simp) <;> omega) (by decide)
     rw [Q0M (by omega)] at h
     rw [←e2]
     exact h
    have HPR:=Q00 pr2
    have HP:=Q00 (show Stp g (g+1) wr (((wr.setCell ⟨g,i * 5,none⟩ (.int .i64 (kk))).setCell ⟨g,i * 5+1,none⟩ (.int .i64 (kk+1))).setCell ⟨g,i * 5+2,none⟩ (.bool B)) from ((((Stp.refl wr).trans (Q06 _ g _ _)).trans (Q06 _ g _ _)).trans (Q06 _ g _ _)))
    have hq1:∀j,j < xs.length→g+1≤L j∨H j≤g:=fun j hj=> by have:=HOUT.out j hj;omega
    have HQ1:=Q00 hq1
    have HRW1:=Q00 (HRW.out.step HP.out (fun j hj=> hq1 j (by rw [Q0L] at hj;exact hj)))
    have hgi:=hq1 i hlt
    have HIC:=Q00 (InRow.step ic HP.out (by omega))
    have HIT:=Q00 (InRow.step it HP.out (by omega))
    obtain ⟨o1,cc1,ev1,_⟩:=InRow.ri HIC.out
    obtain ⟨o2,cc2,ev2,_⟩:=InRow.ri HIT.out
    have HM1:=Q00 (Q2M a v1 m.c (kk+1+1+1) _ HIC.out.1 (by omega) (by omega) hl1)
    have HNE:=Q00 hne
    have HE12:=Q00 (And.intro e1 e2)
    have HEV:=Q00 (And.intro ev1 ev2)
    have hgw4:g < wr.heap.size:=Kbq hgw HST.out.size
    rw [ev1] at c1
    have HC2:=Q00 c2
    clear ic it hne hq1 e1 e2 c2 pr0 pr1 pr2
    go_wp2_with fail
    rw [←HEV.out.1]
    refine HM1.out.mono ?_
    rintro e w4 ⟨rfl,ho1,hg1⟩
    have hlo1:∀q,v1.ownBlock=some q→L i≤q∧q < H i:=fun q hq=> by have h1:=(HIC.out.1.lt q hq).1;have h2:=HIC.out.2 q hq;omega
    have hlo2:∀q,v2.ownBlock=some q→L i≤q∧q < H i:=fun q hq=> by have h1:=(HIT.out.1.lt q hq).1;have h2:=HIT.out.2 q hq;omega
    have s1:Stp (L i) (H i) (((wr.setCell ⟨g,i * 5,none⟩ (.int .i64 (kk))).setCell ⟨g,i * 5+1,none⟩ (.int .i64 (kk+1))).setCell ⟨g,i * 5+2,none⟩ (.bool B)) w4:=Stp.grown hg1 hlo1
    have hgo:=HOUT.out i hlt
    have HR4:=Q00 (InRow.steps HPR.out s1 (fun q e=> by have e:=Option.some.inj e;simp at e;omega))
    have HIT4:=Q00 (InRow.kept HIT.out hg1 (Qbf HNE.out))
    have c3:w4.cell? ⟨g,i * 5+4,none⟩=some v2:=s1.cellP HC2.out hgo
    rw [HEV.out.2] at c3
    have S1:=Q00 s1
    have HO1:=Q00 ho1
    have HM2:=Q00 (Q2M a2 v2 m.t (kk+1+1+1+5 * (m.c.length:Int)) _ HIT4.out.1 (by omega) (by omega) hl2)
    clear c1 ho1 hg1 s1 HM1 HC2 pf0 ph0 pf1 ph1 pf2 ph2
    go_wp2_with fail
    rw [←HEV.out.2]
    refine HM2.out.mono ?_
    rintro e w5 ⟨rfl,ho2,hg2⟩
    have s2:Stp (L i) (H i) w4 w5:=Stp.grown hg2 hlo2
    have HO1b:=Q00 (World.ownsRow.kept HO1.out hg2 HNE.out)
    have HO2:=Q00 ho2
    have HR5:=Q00 (InRow.steps HR4.out s2 (fun q e=> by have e:=Option.some.inj e;simp at e;omega))
    have S12:=Q00 (S1.out.trans s2)
    clear c3 ho2 hg2 s2 HM2 HO1
    have HP2:=Q00 (Stp.refl (lo:=g) (hi:=g+1) w5)
    have HRF:Hid (InL Q1D 87 lo hi w5 (.slice (some ⟨g,0,none⟩) xs.length cap) (hs.set i { y with id:=kk,lim:=kk+1,dr:=B })):=HR5.out
    have HQF:Hid (QA (L i) (H i) w5 (Qhg { y with id:=kk,lim:=kk+1,dr:=B }) (QgL kk m)):=by
     rw [←hB]
     refine ⟨v1,v2,a,b,a2,b2,by unfold QgL;rw [←HE12.out.1,←HE12.out.2],kb,InRow.step ⟨HO1b.out,HIC.out.2⟩ HP2.out (by omega),InRow.step ⟨HO2.out,HIT.out.2⟩ HP2.out (by omega),HNE.out⟩
    have HFN:Hid (RwE elA (Q1w (Qfi k xs) xs amD (i+1)) lo hi w5 (hs.set i { y with id:=kk,lim:=kk+1,dr:=B }) L H):=by
     unfold Hid
     rw [←Q47,hmk.out]
     refine HRW1.out.set (by rw [Q0L];exact hlt) (fun j hj hji=> ?_) HQF.out
     have hj2:j < xs.length:=by rw [Q0L] at hj;exact hj
     have hs9:=HSEP.out j i hj2 hlt hji
     exact elA.qs.go (elA.qs.go (HRW1.out.row j hj) S12.out (by omega)) HP2.out (HQ1.out j hj2)
    have HSF:=Q00 (HST.out.trans ((HP.out.wide2 hgl hgh).trans ((S12.out.wide2 (HBD.out i hlt).1 (HBD.out i hlt).2).trans (HP2.out.wide2 hgl hgh))))
    clear HRW HRW1 HR4 HR5 HIC HIT HIT4 S1 S12 HP HP2 HPR HROW HST HQF HO1b HO2
    skip
    go_wp2
    go_roundw
    case rel=>
     refine ⟨i+1,hs.set i { y with id:=kk,lim:=kk+1,dr:=B },by omega,by go_num,by rw [HKK.out],HRF.out,HFN.out,HSF.out⟩
    case measure=> simp [intOf];omega
   ·have e:i=xs.length:=by omega
    subst e
    have hz9:Q0G (nA xs) xs.length=nAs xs:=rfl
    rw [hz9]
    have HE:Hid (Q1w (Qfi k xs) xs amD xs.length=Qgd k xs):=Q4i _ _ _
    have HL9:=Q00 (Qen k xs)
    clear hz9
    go_wp2
    go_ret
    exact ⟨rfl,⟨hs,L,H,HROW.out,by rw [←HE.out];exact HRW.out,by rw [HL9.out];exact HOB.out⟩,HST.out⟩
end Go.Proofs.YtgplppfbinfelaaGreat
