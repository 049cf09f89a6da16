/- Several texts in one: SBDraw, SDrSend. -/
import Derived.Test.YtpneolgdghbinaaGreatQSends39
import Derived.Test.YtpneolgdghbinaaGreatQSends42
namespace Go.Proofs.YtpneolgdghbinaaGreat
open Go.ChangeShapes Go.WideShapes Go.ChangeAt Go.RowKit Go.Joins
set_option linter.unusedVariables false
set_option linter.unusedSimpArgs false
set_option maxRecDepth 100000
set_option maxHeartbeats 40000000
theorem QdH {W:World} {R:Nat} {z0 z1 z2 z3 z4 z5 z6:Value} {T:TypeId} (h:W.heap[R]? =some (.cells #[z0,z1,z2,z3,z4,z5,z6] T (0,0))) (x0 x1 x2 x3 x4 x5 x6:Value):(Q1Q W R x0 x1 x2 x3 x4 x5 x6).heap[R]? =some (.cells #[x0,x1,x2,x3,x4,x5,x6] T (0,0)):=by
 have h1:(W.setCell ⟨R,0,none⟩ x0).heap[R]? =some (.cells #[x0,z1,z2,z3,z4,z5,z6] T (0,0)):=Q06 h 0 x0;have h2:((W.setCell ⟨R,0,none⟩ x0).setCell ⟨R,1,none⟩ x1).heap[R]? =some (.cells #[x0,x1,z2,z3,z4,z5,z6] T (0,0)):=Q06 h1 1 x1;have h3:(((W.setCell ⟨R,0,none⟩ x0).setCell ⟨R,1,none⟩ x1).setCell ⟨R,2,none⟩ x2).heap[R]? =some (.cells #[x0,x1,x2,z3,z4,z5,z6] T (0,0)):=Q06 h2 2 x2;have h4:((((W.setCell ⟨R,0,none⟩ x0).setCell ⟨R,1,none⟩ x1).setCell ⟨R,2,none⟩ x2).setCell ⟨R,3,none⟩ x3).heap[R]? =some (.cells #[x0,x1,x2,x3,z4,z5,z6] T (0,0)):=Q06 h3 3 x3
 have h5:(((((W.setCell ⟨R,0,none⟩ x0).setCell ⟨R,1,none⟩ x1).setCell ⟨R,2,none⟩ x2).setCell ⟨R,3,none⟩ x3).setCell ⟨R,4,none⟩ x4).heap[R]? =some (.cells #[x0,x1,x2,x3,x4,z5,z6] T (0,0)):=Q06 h4 4 x4;have h6:((((((W.setCell ⟨R,0,none⟩ x0).setCell ⟨R,1,none⟩ x1).setCell ⟨R,2,none⟩ x2).setCell ⟨R,3,none⟩ x3).setCell ⟨R,4,none⟩ x4).setCell ⟨R,5,none⟩ x5).heap[R]? =some (.cells #[x0,x1,x2,x3,x4,x5,z6] T (0,0)):=Q06 h5 5 x5
 exact Q06 h6 6 x6
theorem OrBr.opn {lo hi:Nat} {w:World} {v:Value} {m:Bm} (h:OrBr lo hi w v m):∃(kj:Int) (o:Option Addr) (nj c:Nat) (sj kp:Int) (ob:Option Addr) (np cb:Nat) (oR:Option Addr) (nr cR:Nat) (ot:Option Addr) (nt ct:Nat),v=Q1d kj (.slice o nj c) sj kp (.slice ob np cb) (.slice oR nr cR) (.slice ot nt ct):=by
 obtain ⟨vl,vb,vr,vt,rfl,⟨o,c,rfl,_⟩,h2,⟨vb',vr',e,⟨ob,cb,rfl,_⟩,_,kb3,_⟩,o4,c4,rfl,h4⟩:=h
 simp only [Value.agg.injEq,Array.mk.injEq,List.cons.injEq,and_true,true_and] at e
 obtain ⟨e1,e2⟩:=e;subst e1 e2;obtain ⟨oR,cR,rfl⟩:=RiR.len (RcR.ri kb3)
 exact ⟨_,_,_,_,_,_,_,_,_,_,_,_,_,_,_,rfl⟩
theorem OrBr.eqs {lo hi:Nat} {w:World} {kj:Int} {o:Option Addr} {nj c:Nat} {sj kp:Int} {ob:Option Addr} {np cb:Nat} {oR:Option Addr} {nr cR:Nat} {ot:Option Addr} {nt ct:Nat} {m:Bm} (h:OrBr lo hi w (Q1d kj (.slice o nj c) sj kp (.slice ob np cb) (.slice oR nr cR) (.slice ot nt ct)) m):m=⟨⟨kj,m.j.l,sj⟩,⟨kp,m.p.l,m.p.ring⟩,m.t⟩∧nj=m.j.l.length∧RcPm lo hi w (plv kp (.slice ob np cb) (.slice oR nr cR)) m.p:=by
 obtain ⟨vl,vb,vr,vt,e,⟨o9,c9,e9,_⟩,h2,h3,h4⟩:=h
 simp only [Value.agg.injEq,Array.mk.injEq,List.cons.injEq,and_true,true_and,Value.int.injEq] at e
 obtain ⟨e1,e2,e3,e4,e5,e6,e7⟩:=e;subst e2 e5 e6 e7
 injection e9 with e91 e92 e93
 refine ⟨?_,e92, ?_⟩
 ·rw [e1,e3,e4]
 ·rw [e4];exact h3
theorem Q8h {lo hi:Nat} {v:Value} {m:Bm} {w:World} (h:OrBr lo hi w v m) (hh:hi≤w.heap.size) (hb:Q2i m=true):
  Calls Tryz.prog 131 #[v] w fun e w'=> ∃v',e=.returned v'∧OwBm w.heap.size w'.heap.size w' v' m∧Below w.heap.size w w':=QeQ (h.or hh (Q4d hb)) (Q89 hb)
theorem QfE (kj:Int) (o:Option Addr) (nj c:Nat) (sj kp:Int) (ob:Option Addr) (np cb:Nat) (oR:Option Addr) (nr cR:Nat) (ot:Option Addr) (nt ct:Nat) (m:Bm) (k i gg:Int) (w:World) {a b:Nat} (h:OrBr a b w (Q1d kj (.slice o nj c) sj kp (.slice ob np cb) (.slice oR nr cR) (.slice ot nt ct)) m) (hh:b≤w.heap.size) (hb:Q2i m=true) (hc:Q0E k i gg=true):
  Calls Tryz.prog 128 #[Q1d kj (.slice o nj c) sj kp (.slice ob np cb) (.slice oR nr cR) (.slice ot nt ct),cmd k i gg] w fun e w'=> ∃(kj1:Int) (o1:Option Addr) (nj1 c1:Nat) (sj1 kp1:Int) (ob1:Option Addr) (np1 cb1:Nat) (oR1:Option Addr) (nr1 cR1:Nat) (ot1:Option Addr) (nt1 ct1:Nat) (nf:Bool),e=.returned (.tuple #[Q1d kj1 (.slice o1 nj1 c1) sj1 kp1 (.slice ob1 np1 cb1) (.slice oR1 nr1 cR1) (.slice ot1 nt1 ct1),.bool nf])∧(OrBr w.heap.size w'.heap.size w' (Q1d kj1 (.slice o1 nj1 c1) sj1 kp1 (.slice ob1 np1 cb1) (.slice oR1 nr1 cR1) (.slice ot1 nt1 ct1)) (Q8O m k i gg)∨(Q1d kj1 (.slice o1 nj1 c1) sj1 kp1 (.slice ob1 np1 cb1) (.slice oR1 nr1 cR1) (.slice ot1 nt1 ct1)=Q1d kj (.slice o nj c) sj kp (.slice ob np cb) (.slice oR nr cR) (.slice ot nt ct)∧Q8O m k i gg=m))∧Below w.heap.size w w':=by
 obtain ⟨e1,e2,e3⟩:=h.eqs
 have hp:RcPm 0 w.heap.size w (plv kp (.slice ob np cb) (.slice oR nr cR)) ⟨kp,m.p.l,m.p.ring⟩:=by
  have e4:m.p=⟨kp,m.p.l,m.p.ring⟩:=congrArg Bm.p e1
  rw [←e4]
  exact e3.mono (Kcq _) hh
 have hown:=fun (W:World) (hb9:Below w.heap.size w W)=> Q8h ((h.step (Stp.of (lo:=0) (hi:=0) hb9) (.inl (Kcq _)))) (Kdq hh hb9.size) hb
 have hf:=Q89 hb
 rw [e1] at hown hb hf ⊢
 refine (QdX kj o nj c sj kp ob np cb oR nr cR ot nt ct m.j.l m.p.l m.p.ring m.t k i gg w e2 hp hown hb hc hf).mono ?_
 rintro e w' ⟨v,rfl,hv,hbb⟩
 rcases hv with ⟨_,hv⟩|⟨hn,rfl⟩
 ·have hv2:=hv.br
  obtain ⟨kj1,o1,nj1,c1,sj1,kp1,ob1,np1,cb1,oR1,nr1,cR1,ot1,nt1,ct1,rfl⟩:=hv2.opn
  exact ⟨_,_,_,_,_,_,_,_,_,_,_,_,_,_,_,_,rfl,.inl hv2,hbb⟩
 ·exact ⟨_,_,_,_,_,_,_,_,_,_,_,_,_,_,_,_,rfl,.inr ⟨rfl,by unfold Q8O;rw [if_neg (by rw [hn];decide)]⟩,hbb⟩
theorem QbS (kj:Int) (o:Option Addr) (nj c:Nat) (sj kp:Int) (ob:Option Addr) (np cb:Nat) (oR:Option Addr) (nr cR:Nat) (ot:Option Addr) (nt ct:Nat) (m:Bm) (now fa fp x:Int) (w:World) {a b:Nat} (h:OrBr a b w (Q1d kj (.slice o nj c) sj kp (.slice ob np cb) (.slice oR nr cR) (.slice ot nt ct)) m) (hh:b≤w.heap.size) (hb:Q2i m=true) (hn0:0≤now) (hn1:now≤100000) (hfl:Q0f fa fp=true):
  Calls Tryz.prog 129 #[Q1d kj (.slice o nj c) sj kp (.slice ob np cb) (.slice oR nr cR) (.slice ot nt ct),.int .i64 now,Q9T fa fp,.int .i64 x] w fun e w'=> ∃(kj1:Int) (o1:Option Addr) (nj1 c1:Nat) (sj1 kp1:Int) (ob1:Option Addr) (np1 cb1:Nat) (oR1:Option Addr) (nr1 cR1:Nat) (ot1:Option Addr) (nt1 ct1:Nat),e=.returned (Q1d kj1 (.slice o1 nj1 c1) sj1 kp1 (.slice ob1 np1 cb1) (.slice oR1 nr1 cR1) (.slice ot1 nt1 ct1))∧OrBr w.heap.size w'.heap.size w' (Q1d kj1 (.slice o1 nj1 c1) sj1 kp1 (.slice ob1 np1 cb1) (.slice oR1 nr1 cR1) (.slice ot1 nt1 ct1)) (Q6P m now fa fp x)∧Below w.heap.size w w':=by
 obtain ⟨e1,_,_⟩:=h.eqs
 have hown:=fun (W:World) (hb9:Below w.heap.size w W)=> Q8h ((h.step (Stp.of (lo:=0) (hi:=0) hb9) (.inl (Kcq _)))) (Kdq hh hb9.size) hb
 have hf:=Q89 hb;have ht:=Q29 hb
 have hs:(Q1o m.t fa fp).1 < 0→Q0f (Q5e m.t).a (Q5e m.t).p=true:=fun h=> Qeg ht h
 have hfo:=Q4b ht
 rw [e1] at hown hb hf ⊢
 refine (QaJ kj o nj c sj kp ob np cb oR nr cR ot nt ct m.j.l m.p.l m.p.ring m.t now fa fp x w hown hb hf hn0 hn1 hfl hs hfo).mono ?_
 rintro e w' ⟨v,rfl,hv,hbb⟩
 obtain ⟨kj1,o1,nj1,c1,sj1,kp1,ob1,np1,cb1,oR1,nr1,cR1,ot1,nt1,ct1,rfl⟩:=hv.opn
 exact ⟨_,_,_,_,_,_,_,_,_,_,_,_,_,_,_,rfl,hv,hbb⟩
structure LBInv (k B:Nat) (w0 wr:World) (m:Bm) (kj:Int) (o:Option Addr) (nj c:Nat) (sj kp:Int) (ob:Option Addr) (np cb:Nat) (oR:Option Addr) (nr cR:Nat) (ot:Option Addr) (nt ct:Nat) (a b:Nat):Prop where
 ok:Q2i m=true
 val:OrBr a b wr (Q1d kj (.slice o nj c) sj kp (.slice ob np cb) (.slice oR nr cR) (.slice ot nt ct)) m
 lo:w0.heap.size+1≤a
 hi:b≤wr.heap.size
 off:b≤B∨B+1≤a
 box:wr.heap[B]? =some (.cells #[.int .i64 kj,.slice o nj c,.int .i64 sj,.int .i64 kp,.slice ob np cb,.slice oR nr cR,.slice ot nt ct] 34 (0,0))
 res:wr.heap[w0.heap.size]? =some (.cells #[.int .i64 0,.slice none 0 0,.int .i64 0,.int .i64 0,.slice none 0 0,.slice none 0 0,.slice none 0 0] 34 (0,0))
 dr:Dr k w0 wr
 pos:w0.heap.size < B
theorem LBInv.draw {k B:Nat} {w0 wr x:World} {m:Bm} {kj:Int} {o:Option Addr} {nj c:Nat} {sj kp:Int} {ob:Option Addr} {np cb:Nat} {oR:Option Addr} {nr cR:Nat} {ot:Option Addr} {nt ct:Nat} {a b:Nat} (h:LBInv k B w0 wr m kj o nj c sj kp ob np cb oR nr cR ot nt ct a b) (hk:k < w0.heap.size) (hc:isCur k x) (hg':wr.drew.grownBy x (some k)):LBInv k B w0 x m kj o nj c sj kp ob np cb oR nr cR ot nt ct a b:=by
 have hg:wr.grownBy x (some k):=⟨hg'.os,hg'.tape,hg'.output,hg'.size,hg'.block⟩;have hp:=h.pos;have hl:=h.lo
 exact ⟨h.ok,h.val.step (Stp.grown (lo:=k) (hi:=k+1) hg (fun q e=> by injection e with e;omega)) (.inl (by omega)),h.lo,Kdq h.hi hg.size,h.off,Q09 hg (Array.getElem?_eq_some_iff.1 h.box).1 (by omega) h.box,Q09 hg (Array.getElem?_eq_some_iff.1 h.res).1 (by omega) h.res,h.dr.step hc hg,h.pos⟩
theorem LBInv.draw0 {k B:Nat} {w0 wr x:World} {m:Bm} {kj:Int} {o:Option Addr} {nj c:Nat} {sj kp:Int} {ob:Option Addr} {np cb:Nat} {oR:Option Addr} {nr cR:Nat} {ot:Option Addr} {nt ct:Nat} {a b:Nat} (h:LBInv k B w0 wr m kj o nj c sj kp ob np cb oR nr cR ot nt ct a b) (hk:k < w0.heap.size) (hc:isCur k x) (hg:wr.grownBy x (some k)):LBInv k B w0 x m kj o nj c sj kp ob np cb oR nr cR ot nt ct a b:=
 h.draw hk hc ⟨hg.os,hg.tape,hg.output,hg.size,hg.block⟩
theorem LBInv.curd {k B:Nat} {w0 wr:World} {m:Bm} {kj:Int} {o:Option Addr} {nj c:Nat} {sj kp:Int} {ob:Option Addr} {np cb:Nat} {oR:Option Addr} {nr cR:Nat} {ot:Option Addr} {nt ct:Nat} {a b:Nat} (h:LBInv k B w0 wr m kj o nj c sj kp ob np cb oR nr cR ot nt ct a b) (hk:k < w0.heap.size):isCur k wr.drew:=h.dr.cur.below (Below.drew (Below.refl _ _))
theorem LBInv.size {k B:Nat} {w0 wr:World} {m:Bm} {kj:Int} {o:Option Addr} {nj c:Nat} {sj kp:Int} {ob:Option Addr} {np cb:Nat} {oR:Option Addr} {nr cR:Nat} {ot:Option Addr} {nt ct:Nat} {a b:Nat} (h:LBInv k B w0 wr m kj o nj c sj kp ob np cb oR nr cR ot nt ct a b) (hk:k < w0.heap.size):k < wr.heap.size:=Kbq hk h.dr.gr.size
theorem LBInv.cells {k B:Nat} {w0 wr:World} {m:Bm} {kj:Int} {o:Option Addr} {nj c:Nat} {sj kp:Int} {ob:Option Addr} {np cb:Nat} {oR:Option Addr} {nr cR:Nat} {ot:Option Addr} {nt ct:Nat} {a b:Nat} (h:LBInv k B w0 wr m kj o nj c sj kp ob np cb oR nr cR ot nt ct a b):wr.cell? ⟨B,0,none⟩=some (.int .i64 kj)∧wr.cell? ⟨B,1,none⟩=some (.slice o nj c)∧wr.cell? ⟨B,2,none⟩=some (.int .i64 sj)∧wr.cell? ⟨B,3,none⟩=some (.int .i64 kp)∧wr.cell? ⟨B,4,none⟩=some (.slice ob np cb)∧wr.cell? ⟨B,5,none⟩=some (.slice oR nr cR)∧wr.cell? ⟨B,6,none⟩=some (.slice ot nt ct):=
 ⟨Q00 h.box 0 _ rfl,Q00 h.box 1 _ rfl,Q00 h.box 2 _ rfl,Q00 h.box 3 _ rfl,Q00 h.box 4 _ rfl,Q00 h.box 5 _ rfl,Q00 h.box 6 _ rfl⟩
theorem LBInv.frz {k B:Nat} {w0 wr:World} {m:Bm} {kj:Int} {o:Option Addr} {nj c:Nat} {sj kp:Int} {ob:Option Addr} {np cb:Nat} {oR:Option Addr} {nr cR:Nat} {ot:Option Addr} {nt ct:Nat} {a b:Nat} (h:LBInv k B w0 wr m kj o nj c sj kp ob np cb oR nr cR ot nt ct a b) (j:Nat):wr.frozen? ⟨B,j,none⟩=false:=Q01 h.box j
theorem LBInv.boxlt {k B:Nat} {w0 wr:World} {m:Bm} {kj:Int} {o:Option Addr} {nj c:Nat} {sj kp:Int} {ob:Option Addr} {np cb:Nat} {oR:Option Addr} {nr cR:Nat} {ot:Option Addr} {nt ct:Nat} {a b:Nat} (h:LBInv k B w0 wr m kj o nj c sj kp ob np cb oR nr cR ot nt ct a b):B < wr.heap.size:=(Array.getElem?_eq_some_iff.1 h.box).1
theorem LBInv.store {k B:Nat} {w0 x y:World} {m m2:Bm} {kj:Int} {o:Option Addr} {nj c:Nat} {sj kp:Int} {ob:Option Addr} {np cb:Nat} {oR:Option Addr} {nr cR:Nat} {ot:Option Addr} {nt ct:Nat} {kj1:Int} {o1:Option Addr} {nj1 c1:Nat} {sj1 kp1:Int} {ob1:Option Addr} {np1 cb1:Nat} {oR1:Option Addr} {nr1 cR1:Nat} {ot1:Option Addr} {nt1 ct1:Nat} {a b:Nat} (h:LBInv k B w0 x m kj o nj c sj kp ob np cb oR nr cR ot nt ct a b) (hk:k < w0.heap.size) (hb:Below x.heap.size x y) (hok:Q2i m2=true) (hv:OrBr x.heap.size y.heap.size y (Q1d kj1 (.slice o1 nj1 c1) sj1 kp1 (.slice ob1 np1 cb1) (.slice oR1 nr1 cR1) (.slice ot1 nt1 ct1)) m2∨(Q1d kj1 (.slice o1 nj1 c1) sj1 kp1 (.slice ob1 np1 cb1) (.slice oR1 nr1 cR1) (.slice ot1 nt1 ct1)=Q1d kj (.slice o nj c) sj kp (.slice ob np cb) (.slice oR nr cR) (.slice ot nt ct)∧m2=m)):∃a2 b2,LBInv k B w0 (Q1Q y B (.int .i64 kj1) (.slice o1 nj1 c1) (.int .i64 sj1) (.int .i64 kp1) (.slice ob1 np1 cb1) (.slice oR1 nr1 cR1) (.slice ot1 nt1 ct1)) m2 kj1 o1 nj1 c1 sj1 kp1 ob1 np1 cb1 oR1 nr1 cR1 ot1 nt1 ct1 a2 b2:=by
 have hbl:=h.boxlt
 have hrl:=(Array.getElem?_eq_some_iff.1 h.res).1
 have hp:=h.pos;have hbx:=(hb.block B hbl).trans h.box;have hrx:=(hb.block w0.heap.size hrl).trans h.res;have s:=Q1a y B (.int .i64 kj1) (.slice o1 nj1 c1) (.int .i64 sj1) (.int .i64 kp1) (.slice ob1 np1 cb1) (.slice oR1 nr1 cR1) (.slice ot1 nt1 ct1);have hX:=QdH hbx (.int .i64 kj1) (.slice o1 nj1 c1) (.int .i64 sj1) (.int .i64 kp1) (.slice ob1 np1 cb1) (.slice oR1 nr1 cR1) (.slice ot1 nt1 ct1);have hR:=s.box hrx (.inl hp)
 have hd:Dr k w0 (Q1Q y B (.int .i64 kj1) (.slice o1 nj1 c1) (.int .i64 sj1) (.int .i64 kp1) (.slice ob1 np1 cb1) (.slice oR1 nr1 cR1) (.slice ot1 nt1 ct1)):=h.dr.below hk (Q0z (hb.mono h.dr.gr.size) (Nat.le_of_lt hp) (.int .i64 kj1) (.slice o1 nj1 c1) (.int .i64 sj1) (.int .i64 kp1) (.slice ob1 np1 cb1) (.slice oR1 nr1 cR1) (.slice ot1 nt1 ct1));have hz:((Q1Q y B (.int .i64 kj1) (.slice o1 nj1 c1) (.int .i64 sj1) (.int .i64 kp1) (.slice ob1 np1 cb1) (.slice oR1 nr1 cR1) (.slice ot1 nt1 ct1))).heap.size=y.heap.size:=Q0F _ _ _ _ _ _ _ _ _;have hys:=hb.size
 rcases hv with hv|⟨e,rfl⟩
 ·exact ⟨x.heap.size,y.heap.size,hok,hv.step s (.inl (by omega)),by omega,by omega,.inr (by omega),hX,hR,hd,hp⟩
 ·have h2:=(h.val.step (Stp.of (lo:=0) (hi:=0) hb) (.inl (Kcq _))).step s (h.off.elim (fun q=> .inr q) (fun q=> .inl q))
  rw [←e] at h2
  exact ⟨a,b,hok,h2,h.lo,by have:=h.hi;omega,h.off,hX,hR,hd,hp⟩
theorem QbR (k:Nat) (w:World) (hc:isCur k w) (hk:k < w.heap.size):
  Calls Tryz.prog 78 #[.pointer (some ⟨k,0,none⟩)] w fun e w'=> ∃v m,e=.returned v∧Q2i m=true∧OwBm (w.heap.size+1) w'.heap.size w' v m∧Dr k w w':=by
 obtain ⟨W0,hW0⟩:∃W,w.alloc (.cells #[.int .i64 0,.slice none 0 0,.int .i64 0,.int .i64 0,.slice none 0 0,.slice none 0 0,.slice none 0 0] 34)=W:=⟨_,rfl⟩
 have hb0:Below w.heap.size w W0:=by rw [←hW0];exact (Below.refl _ _).alloc (Kaq _) _
 have HD0:=Q02 (show Dr k w W0 from ⟨hc.below (hb0.mono hk),by rw [←hW0];exact Q0r w _ k⟩)
 have HR0:Hid (W0.heap[w.heap.size]? =some (.cells #[.int .i64 0,.slice none 0 0,.int .i64 0,.int .i64 0,.slice none 0 0,.slice none 0 0,.slice none 0 0] 34 (0,0))):=by rw [←hW0];exact World.alloc_heap_new w _
 have hs0:w.heap.size < W0.heap.size:=by rw [←hW0];simp
 clear hb0 hc
 go_enter Tryz.func78,Tryz.ntmps78
 go_wp2_with fail
 refine (Q0m k 50 W0 HD0.out.cur (by decide) (by decide)).mono ?_
 rintro e w1 ⟨key,rfl,hk0,hk50,hc1,hg1⟩
 have HD1:=Q02 (HD0.out.step hc1 hg1)
 have HR1:=Q02 (Q09 hg1 hs0 (by omega) HR0.out)
 have hs1:w.heap.size < w1.heap.size:=Kbq hs0 hg1.size
 have HKEY:=Q02 (show Q1C key=true by unfold Q1C;simp;omega)
 clear hc1 hg1 HR0 HD0 hs0 hW0
 go_wp2_with fail
 refine (Q0m k 6 w1 HD1.out.cur (by decide) (by decide)).mono ?_
 rintro e w2 ⟨q',rfl,hq0,hq6,hc1,hg1⟩
 obtain ⟨q,rfl⟩:=Int.eq_ofNat_of_zero_le hq0;have HD2:=Q02 (HD1.out.step hc1 hg1)
 have HR2:=Q02 (Q09 hg1 hs1 (by omega) HR1.out)
 have hs2:w.heap.size < w2.heap.size:=Kbq hs1 hg1.size;clear hc1 hg1 HR1 HD1 hs1
 have HN:=QdW key (q+1) w2 HKEY.out (by omega)
 rw [show (((q+1:Nat)):Int)=1+(q:Int) by omega] at HN
 go_wp2_with fail
 refine HN.mono ?_
 rintro e w3 ⟨g,tb,rfl,hring,ho,hb3⟩
 clear HN;have hl3:=hb3.size
 have HI3:Hid (OrBr w2.heap.size w3.heap.size w3 (Q1d key (.slice none 0 0) 0 key (.slice none 0 0) (.slice (some ⟨g,0,none⟩) 1 1) (.slice (some ⟨tb,0,none⟩) (q+1) (q+1))) ⟨⟨key,[],0⟩,⟨key,[],Q13 key [[]]⟩,List.replicate (q+1) sl0⟩):=by
  refine ⟨_,_,_,_,rfl,⟨none,0,rfl,.inl rfl⟩,(fun n c h=> by injection h with _ _ h;exact h.symm),⟨_,_,rfl,⟨none,0,rfl,.inl rfl⟩,(fun n c h=> by injection h with _ _ h;exact h.symm),hring,(fun n c h=> by injection h with h;cases h)⟩, ?_⟩
  exact InRow.ri (InRow.of ho)
 have HOK:=Q02 (Qfb key (q+1) HKEY.out (by omega) (by omega))
 have HD3:=Q02 (HD2.out.below hk (hb3.mono (Nat.le_of_lt hs2)));have HR3:=Q02 ((hb3.block _ hs2).trans HR2.out);clear hring ho hb3 HD2 HR2;obtain ⟨W4,hW4⟩:∃W,w3.alloc (.cells #[.int .i64 key,.slice none 0 0,.int .i64 0,.int .i64 key,.slice none 0 0,.slice (some ⟨g,0,none⟩) 1 1,.slice (some ⟨tb,0,none⟩) (q+1) (q+1)] 34)=W:=⟨_,rfl⟩
 have hb4:Below w3.heap.size w3 W4:=by rw [←hW4];exact (Below.refl _ _).alloc (Kaq _) _
 have HI4:Hid (∃a b,LBInv k w3.heap.size w W4 ⟨⟨key,[],0⟩,⟨key,[],Q13 key [[]]⟩,List.replicate (q+1) sl0⟩ key none 0 0 0 key none 0 0 (some ⟨g,0,none⟩) 1 1 (some ⟨tb,0,none⟩) (q+1) (q+1) a b):=by
  refine ⟨w2.heap.size,w3.heap.size,HOK.out,HI3.out.step (Stp.of (lo:=0) (hi:=0) hb4) (.inl (Kcq _)),by omega,hb4.size,.inl (Kaq _),by rw [←hW4];exact World.alloc_heap_new w3 _,(hb4.block _ (by omega)).trans HR3.out,HD3.out.below hk (hb4.mono (by omega)),by omega⟩
 obtain ⟨B,hB⟩:∃B,w3.heap.size=B:=⟨_,rfl⟩;clear hb4 HI3 HOK HD3 HR3
 go_wp2_with fail
 rw [hB] at HI4
 clear hW4;obtain ⟨a4,b4,hi4⟩:=HI4.out;have HJ:=Q02 hi4;clear hi4 HI4
 refine (Q0m k 12 W4 HJ.out.dr.cur (by decide) (by decide)).mono ?_
 rintro e v4 ⟨n2,rfl,n0,n12,hc4,hg4⟩
 have HJ4:=Q02 (HJ.out.draw0 hk hc4 hg4);clear hc4 hg4 HJ
 try simp only [hB]
 clear hB
 go_wp2
 go_loopw [5] (fun iv wr=> ∃(i:Nat) (m:Bm) (kj:Int) (o:Option Addr) (nj c:Nat) (sj kp:Int) (ob:Option Addr) (np cb:Nat) (oR:Option Addr) (nr cR:Nat) (ot:Option Addr) (nt ct:Nat) (a b:Nat),(i:Int)≤n2∧iv=.int .i64 i∧Hid (LBInv k B w wr m kj o nj c sj kp ob np cb oR nr cR ot nt ct a b))
  (fun iv _=> n2.toNat - (intOf iv).toNat)
 case atStart=> exact ⟨0,_,_,_,_,_,_,_,_,_,_,_,_,_,_,_,_,_,_,n0,rfl,HJ4⟩
 case round=>
  clear HJ4;obtain ⟨i,m,kj,o,nj,c,sj,kp,ob,np,cb,oR,nr,cR,ot,nt,ct,a,b,hi,rfl,HI⟩:=hrel
  by_cases hlt:(i:Int) < n2
  ·go_wp2_with fail
   refine (Q1g k 2 wr HI.out.dr.cur (by decide) (by decide)).mono ?_
   rintro e v5 ⟨y,rfl,hc5,hg5⟩
   have HI5:=Q02 (HI.out.draw0 hk hc5 hg5);obtain ⟨ct0,ct1,ct2,ct3,ct4,ct5,ct6⟩:=HI5.out.cells;have hk5:=HI5.out.size hk;clear hc5 hg5 HI
   cases y with
   |true=>
    go_wp2
    go_region_with (first|(go_at_call 121;have hc_:=Q6R k v5.drew (HI5.out.curd hk) hk5;with_reducible refine hc_.mono ?_;clear hc_;rintro e x0 ⟨ka,ki,kg,rfl,hcm,hdr⟩;have I0:=Q02 (HI5.out.draw hk hdr.cur hdr.gr);obtain ⟨u0,u1,u2,u3,u4,u5,u6⟩:=I0.out.cells;have HCM:=Q02 hcm;clear hdr hcm)|(go_at_call 128;have hc_:=QfE kj o nj c sj kp ob np cb oR nr cR ot nt ct m ka ki kg x0 I0.out.val I0.out.hi I0.out.ok HCM.out;with_reducible refine hc_.mono ?_;clear hc_;rintro e x1 ⟨kj1,o1,nj1,c1,sj1,kp1,ob1,np1,cb1,oR1,nr1,cR1,ot1,nt1,ct1,nf,rfl,hv,hb⟩;have I:=I0.out;have k1_0:=(hb.cell (p:=⟨B,0,none⟩) I.boxlt).trans (Q00 I.box 0 _ rfl);have k1_1:=(hb.cell (p:=⟨B,1,none⟩) I.boxlt).trans (Q00 I.box 1 _ rfl);have k1_2:=(hb.cell (p:=⟨B,2,none⟩) I.boxlt).trans (Q00 I.box 2 _ rfl);have k1_3:=(hb.cell (p:=⟨B,3,none⟩) I.boxlt).trans (Q00 I.box 3 _ rfl);have k1_4:=(hb.cell (p:=⟨B,4,none⟩) I.boxlt).trans (Q00 I.box 4 _ rfl);have k1_5:=(hb.cell (p:=⟨B,5,none⟩) I.boxlt).trans (Q00 I.box 5 _ rfl);have k1_6:=(hb.cell (p:=⟨B,6,none⟩) I.boxlt).trans (Q00 I.box 6 _ rfl);have f1_0:=(hb.frozen (p:=⟨B,0,none⟩) I.boxlt).trans (I.frz 0);have f1_1:=(hb.frozen (p:=⟨B,1,none⟩) I.boxlt).trans (I.frz 1);have f1_2:=(hb.frozen (p:=⟨B,2,none⟩) I.boxlt).trans (I.frz 2);have f1_3:=(hb.frozen (p:=⟨B,3,none⟩) I.boxlt).trans (I.frz 3);have f1_4:=(hb.frozen (p:=⟨B,4,none⟩) I.boxlt).trans (I.frz 4);have f1_5:=(hb.frozen (p:=⟨B,5,none⟩) I.boxlt).trans (I.frz 5);have f1_6:=(hb.frozen (p:=⟨B,6,none⟩) I.boxlt).trans (I.frz 6);have HS:=Q02 (I.store hk hb (QfH I.ok) hv);clear hv hb I))
    all_goals (
     go_wp2
     go_roundw
     case rel=> obtain ⟨a2,b2,HS2⟩:=HS.out;exact ⟨i+1,_,_,_,_,_,_,_,_,_,_,_,_,_,_,_,_,a2,b2,by omega,by go_num,HS2⟩
     case measure=> simp [intOf];omega)
   |false=>
    go_wp2
    go_region_with (first|(go_at_call 80;have hc_:=Q0m k 20 v5.drew (HI5.out.curd hk) (by decide) (by decide);with_reducible refine hc_.mono ?_;clear hc_;rintro e x0 ⟨nw,rfl,nw0,nw1,hcx,hgx⟩;have I0:=Q02 (HI5.out.draw hk hcx hgx);obtain ⟨u0,u1,u2,u3,u4,u5,u6⟩:=I0.out.cells;have k0_:=I0.out.size hk;clear hcx hgx)|(go_at_call 130;have hc_:=Q1L k x0 I0.out.dr.cur k0_;with_reducible refine hc_.mono ?_;clear hc_;rintro e x1 ⟨fa,fp,rfl,ha,hp,hcx,hgx⟩;have I1:=Q02 (I0.out.draw0 hk hcx hgx);obtain ⟨v0,v1,v2,v3,v4,v5,v6⟩:=I1.out.cells;have HFL:=Q02 (Q4z ha hp);clear hcx hgx ha hp)|(go_at_call 80;have hc_:=Q0m k 5 x1 I1.out.dr.cur (by decide) (by decide);with_reducible refine hc_.mono ?_;clear hc_;rintro e x2 ⟨bk,rfl,bk0,bk1,hcx,hgx⟩;have I2:=Q02 (I1.out.draw0 hk hcx hgx);obtain ⟨y0,y1,y2,y3,y4,y5,y6⟩:=I2.out.cells;clear hcx hgx)|(go_at_call 129;have hc_:=QbS kj o nj c sj kp ob np cb oR nr cR ot nt ct m nw fa fp bk x2 I2.out.val I2.out.hi I2.out.ok nw0 (by omega) HFL.out;with_reducible refine hc_.mono ?_;clear hc_;rintro e x3 ⟨kj1,o1,nj1,c1,sj1,kp1,ob1,np1,cb1,oR1,nr1,cR1,ot1,nt1,ct1,rfl,hv,hb⟩;have I:=I2.out;have k1_0:=(hb.cell (p:=⟨B,0,none⟩) I.boxlt).trans (Q00 I.box 0 _ rfl);have k1_1:=(hb.cell (p:=⟨B,1,none⟩) I.boxlt).trans (Q00 I.box 1 _ rfl);have k1_2:=(hb.cell (p:=⟨B,2,none⟩) I.boxlt).trans (Q00 I.box 2 _ rfl);have k1_3:=(hb.cell (p:=⟨B,3,none⟩) I.boxlt).trans (Q00 I.box 3 _ rfl);have k1_4:=(hb.cell (p:=⟨B,4,none⟩) I.boxlt).trans (Q00 I.box 4 _ rfl);have k1_5:=(hb.cell (p:=⟨B,5,none⟩) I.boxlt).trans (Q00 I.box 5 _ rfl);have k1_6:=(hb.cell (p:=⟨B,6,none⟩) I.boxlt).trans (Q00 I.box 6 _ rfl);have f1_0:=(hb.frozen (p:=⟨B,0,none⟩) I.boxlt).trans (I.frz 0);have f1_1:=(hb.frozen (p:=⟨B,1,none⟩) I.boxlt).trans (I.frz 1);have f1_2:=(hb.frozen (p:=⟨B,2,none⟩) I.boxlt).trans (I.frz 2);have f1_3:=(hb.frozen (p:=⟨B,3,none⟩) I.boxlt).trans (I.frz 3);have f1_4:=(hb.frozen (p:=⟨B,4,none⟩) I.boxlt).trans (I.frz 4);have f1_5:=(hb.frozen (p:=⟨B,5,none⟩) I.boxlt).trans (I.frz 5);have f1_6:=(hb.frozen (p:=⟨B,6,none⟩) I.boxlt).trans (I.frz 6);have HS:=Q02 (I.store hk hb (Qci I.ok nw0 (by omega) HFL.out (by omega)) (.inl hv));clear hv hb I))
    all_goals (
     go_wp2
     go_roundw
     case rel=> obtain ⟨a2,b2,HS2⟩:=HS.out;exact ⟨i+1,_,_,_,_,_,_,_,_,_,_,_,_,_,_,_,_,a2,b2,by omega,by go_num,HS2⟩
     case measure=> simp [intOf];omega)
  ·have hi2:decide ((i:Int) < n2)=false:=decide_eq_false hlt
   have HOWN:=Q02 (Q8h HI.out.val HI.out.hi HI.out.ok);obtain ⟨cl0,cl1,cl2,cl3,cl4,cl5,cl6⟩:=HI.out.cells
   have hrl:w.heap.size < wr.heap.size:=(Array.getElem?_eq_some_iff.1 HI.out.res).1
   go_wp2_with fail
   refine HOWN.out.mono ?_
   rintro e y ⟨v1,rfl,ho,hby⟩
   obtain ⟨kj1,o1,nj1,c1,sj1,kp1,ob1,np1,cb1,oR1,nr1,cR1,ot1,nt1,ct1,rfl⟩:=ho.br.opn;have hX:=(hby.block _ hrl).trans HI.out.res;have cr0:=Q00 hX 0 _ rfl;have cr1:=Q00 hX 1 _ rfl;have cr2:=Q00 hX 2 _ rfl;have cr3:=Q00 hX 3 _ rfl;have cr4:=Q00 hX 4 _ rfl;have cr5:=Q00 hX 5 _ rfl;have cr6:=Q00 hX 6 _ rfl;have fr0:=Q01 hX 0;have fr1:=Q01 hX 1;have fr2:=Q01 hX 2;have fr3:=Q01 hX 3;have fr4:=Q01 hX 4;have fr5:=Q01 hX 5;have fr6:=Q01 hX 6;have HO:=Q02 ho
   have HDR:=Q02 (HI.out.dr.below hk (Q0z (hby.mono HI.out.dr.gr.size) (Kaq _) (.int .i64 kj1) (.slice o1 nj1 c1) (.int .i64 sj1) (.int .i64 kp1) (.slice ob1 np1 cb1) (.slice oR1 nr1 cR1) (.slice ot1 nt1 ct1)));have hok:=Q02 HI.out.ok;clear HOWN ho hby HI hX cl0 cl1 cl2 cl3 cl4 cl5 cl6
   go_wp2
   refine bodyPost_ret (v:=Q1d kj1 (.slice o1 nj1 c1) sj1 kp1 (.slice ob1 np1 cb1) (.slice oR1 nr1 cR1) (.slice ot1 nt1 ct1)) (by simp [results,Tryz.results78,go_sem,cr0,cr1,cr2,cr3,cr4,cr5,cr6]) rfl ⟨_,m,rfl,hok.out, ?_,HDR.out⟩
   have s:=Q1a y w.heap.size (.int .i64 kj1) (.slice o1 nj1 c1) (.int .i64 sj1) (.int .i64 kp1) (.slice ob1 np1 cb1) (.slice oR1 nr1 cR1) (.slice ot1 nt1 ct1)
   exact (HO.out.step s (.inl (by omega))).mono (by omega) (by rw [Q0F];exact Kaq _)
structure BFin (k B:Nat) (w0 y:World) (m:Bm) (kj:Int) (o:Option Addr) (nj c:Nat) (sj kp:Int) (ob:Option Addr) (np cb:Nat) (oR:Option Addr) (nr cR:Nat) (ot:Option Addr) (nt ct:Nat):Prop where
 val:OrBr (w0.heap.size+1) y.heap.size y (Q1d kj (.slice o nj c) sj kp (.slice ob np cb) (.slice oR nr cR) (.slice ot nt ct)) m
 fit:fitBm m∧m.t.length≤16
 box:y.heap[B]? =some (.cells #[.int .i64 kj,.slice o nj c,.int .i64 sj,.int .i64 kp,.slice ob np cb,.slice oR nr cR,.slice ot nt ct] 34 (0,0))
 res:y.heap[w0.heap.size]? =some (.cells #[.int .i64 0,.slice none 0 0,.int .i64 0,.int .i64 0,.slice none 0 0,.slice none 0 0,.slice none 0 0] 34 (0,0))
 dr:Dr k w0 y
theorem BFin.ended {k B:Nat} {w0 y:World} {m:Bm} {kj:Int} {o:Option Addr} {nj c:Nat} {sj kp:Int} {ob:Option Addr} {np cb:Nat} {oR:Option Addr} {nr cR:Nat} {ot:Option Addr} {nt ct:Nat} (h:BFin k B w0 y m kj o nj c sj kp ob np cb oR nr cR ot nt ct) (hk:k < w0.heap.size):OrBr w0.heap.size (Q1Q y w0.heap.size (.int .i64 kj) (.slice o nj c) (.int .i64 sj) (.int .i64 kp) (.slice ob np cb) (.slice oR nr cR) (.slice ot nt ct)).heap.size (Q1Q y w0.heap.size (.int .i64 kj) (.slice o nj c) (.int .i64 sj) (.int .i64 kp) (.slice ob np cb) (.slice oR nr cR) (.slice ot nt ct)) (Q1d kj (.slice o nj c) sj kp (.slice ob np cb) (.slice oR nr cR) (.slice ot nt ct)) m∧Dr k w0 (Q1Q y w0.heap.size (.int .i64 kj) (.slice o nj c) (.int .i64 sj) (.int .i64 kp) (.slice ob np cb) (.slice oR nr cR) (.slice ot nt ct)):=by
 have s:=Q1a y w0.heap.size (.int .i64 kj) (.slice o nj c) (.int .i64 sj) (.int .i64 kp) (.slice ob np cb) (.slice oR nr cR) (.slice ot nt ct)
 exact ⟨(h.val.step s (.inl (Kaq _))).mono (by omega) (by rw [Q0F];exact Kaq _),h.dr.below hk (Q0z ((Below.refl _ y).mono h.dr.gr.size) (Kaq _) (.int .i64 kj) (.slice o nj c) (.int .i64 sj) (.int .i64 kp) (.slice ob np cb) (.slice oR nr cR) (.slice ot nt ct))⟩
theorem BFin.jrn {k B:Nat} {w0 x y:World} {m:Bm} {kj:Int} {o:Option Addr} {nj c:Nat} {sj kp:Int} {ob:Option Addr} {np cb:Nat} {oR:Option Addr} {nr cR:Nat} {ot:Option Addr} {nt ct:Nat} {j:Jm} {o2:Option Addr} {n2 c2:Nat} (hk:k < w0.heap.size) (hB:w0.heap.size < B) (hv:OrBr (w0.heap.size+1) B x (Q1d kj (.slice o nj c) sj kp (.slice ob np cb) (.slice oR nr cR) (.slice ot nt ct)) m) (hf:fitBm m∧m.t.length≤16) (hb:x.heap[B]? =some (.cells #[.int .i64 kj,.slice o nj c,.int .i64 sj,.int .i64 kp,.slice ob np cb,.slice oR nr cR,.slice ot nt ct] 34 (0,0))) (hr:x.heap[w0.heap.size]? =some (.cells #[.int .i64 0,.slice none 0 0,.int .i64 0,.int .i64 0,.slice none 0 0,.slice none 0 0,.slice none 0 0] 34 (0,0))) (hd:Dr k w0 x) (hd2:Dr k x y) (hj:InJm x.heap.size y.heap.size y (jrn j.key (.slice o2 n2 c2) j.safe) j) (hl:j.l.length≤11):BFin k B w0 (((y.setCell ⟨B,0,none⟩ (.int .i64 j.key)).setCell ⟨B,1,none⟩ (.slice o2 n2 c2)).setCell ⟨B,2,none⟩ (.int .i64 j.safe)) ⟨j,m.p,m.t⟩ j.key o2 n2 c2 j.safe kp ob np cb oR nr cR ot nt ct:=by
 have hbl:=(Array.getElem?_eq_some_iff.1 hb).1
 have hrl:=(Array.getElem?_eq_some_iff.1 hr).1
 have g2:=hd2.gr
 have hby:=Q09 g2 hbl (by omega) hb
 have hry:=Q09 g2 hrl (by omega) hr
 have s:=((Q0t y B 0 (.int .i64 j.key)).trans (Q0t _ B 1 (.slice o2 n2 c2))).trans (Q0t _ B 2 (.int .i64 j.safe));have hz:=g2.size;have hsz:=s.size
 have v1:=(hv.step (Stp.grown (lo:=k) (hi:=k+1) g2 (fun q e=> by injection e with e;omega)) (.inl (by omega))).step s (.inr (Kaq _))
 obtain ⟨vl,vb,vr,vt,e,h1,h2,h3,h4⟩:=v1
 simp only [Value.agg.injEq,Array.mk.injEq,List.cons.injEq,and_true,true_and,Value.int.injEq] at e
 obtain ⟨e1,e2,e3,e4,e5,e6,e7⟩:=e;subst e2 e5 e6 e7;have hjc:=hj.cap;obtain ⟨vl2,e,hin⟩:=hj
 simp only [Value.agg.injEq,Array.mk.injEq,List.cons.injEq,and_true,true_and] at e
 subst e
 have hin2:=InRow.step hin s (.inl (by omega))
 have q0:(y.setCell ⟨B,0,none⟩ (.int .i64 j.key)).heap[B]? =some (.cells #[.int .i64 j.key,.slice o nj c,.int .i64 sj,.int .i64 kp,.slice ob np cb,.slice oR nr cR,.slice ot nt ct] 34 (0,0)):=Q06 hby 0 _;have q1:((y.setCell ⟨B,0,none⟩ (.int .i64 j.key)).setCell ⟨B,1,none⟩ (.slice o2 n2 c2)).heap[B]? =some (.cells #[.int .i64 j.key,.slice o2 n2 c2,.int .i64 sj,.int .i64 kp,.slice ob np cb,.slice oR nr cR,.slice ot nt ct] 34 (0,0)):=Q06 q0 1 _
 refine ⟨⟨_,_,_,_,by rw [e4],(InRow.ri hin2).mono (by omega) (by omega),hin2.cap,h3.mono (Kaq _) (by omega),h4.mono (Kaq _) (by omega)⟩,⟨⟨by show j.l.length≤_;omega,hf.1.2.1,hf.1.2.2⟩,hf.2⟩,Q06 q1 2 _,s.box hry (.inl hB),(hd.step hd2.cur ?_).below hk (s.below (by omega) (by have:=hd.gr.size;omega))⟩
 exact g2
theorem BFin.pool {k B:Nat} {w0 x y:World} {m:Bm} {kj:Int} {o:Option Addr} {nj c:Nat} {sj kp:Int} {ob:Option Addr} {np cb:Nat} {oR:Option Addr} {nr cR:Nat} {ot:Option Addr} {nt ct:Nat} {p:Pm} {o2:Option Addr} {n2 c2:Nat} {o3:Option Addr} {n3 c3:Nat} (hk:k < w0.heap.size) (hB:w0.heap.size < B) (hv:OrBr (w0.heap.size+1) B x (Q1d kj (.slice o nj c) sj kp (.slice ob np cb) (.slice oR nr cR) (.slice ot nt ct)) m) (hf:fitBm m∧m.t.length≤16) (hb:x.heap[B]? =some (.cells #[.int .i64 kj,.slice o nj c,.int .i64 sj,.int .i64 kp,.slice ob np cb,.slice oR nr cR,.slice ot nt ct] 34 (0,0))) (hr:x.heap[w0.heap.size]? =some (.cells #[.int .i64 0,.slice none 0 0,.int .i64 0,.int .i64 0,.slice none 0 0,.slice none 0 0,.slice none 0 0] 34 (0,0))) (hd:Dr k w0 x) (hd2:Dr k x y) (hj:RcPm x.heap.size y.heap.size y (plv p.key (.slice o2 n2 c2) (.slice o3 n3 c3)) p) (hl:Q36 p):BFin k B w0 (((y.setCell ⟨B,3,none⟩ (.int .i64 p.key)).setCell ⟨B,4,none⟩ (.slice o2 n2 c2)).setCell ⟨B,5,none⟩ (.slice o3 n3 c3)) ⟨m.j,p,m.t⟩ kj o nj c sj p.key o2 n2 c2 o3 n3 c3 ot nt ct:=by
 have hbl:=(Array.getElem?_eq_some_iff.1 hb).1
 have hrl:=(Array.getElem?_eq_some_iff.1 hr).1
 have g2:=hd2.gr
 have hby:=Q09 g2 hbl (by omega) hb
 have hry:=Q09 g2 hrl (by omega) hr
 have s:=((Q0t y B 3 (.int .i64 p.key)).trans (Q0t _ B 4 (.slice o2 n2 c2))).trans (Q0t _ B 5 (.slice o3 n3 c3));have hz:=g2.size;have hsz:=s.size
 have v1:=(hv.step (Stp.grown (lo:=k) (hi:=k+1) g2 (fun q e=> by injection e with e;omega)) (.inl (by omega))).step s (.inr (Kaq _))
 obtain ⟨vl,vb,vr,vt,e,h1,h2,h3,h4⟩:=v1
 simp only [Value.agg.injEq,Array.mk.injEq,List.cons.injEq,and_true,true_and,Value.int.injEq] at e
 obtain ⟨e1,e2,e3,e4,e5,e6,e7⟩:=e;subst e2 e5 e6 e7
 have hin2:=hj.step s (.inl (by omega))
 have q0:(y.setCell ⟨B,3,none⟩ (.int .i64 p.key)).heap[B]? =some (.cells #[.int .i64 kj,.slice o nj c,.int .i64 sj,.int .i64 p.key,.slice ob np cb,.slice oR nr cR,.slice ot nt ct] 34 (0,0)):=Q06 hby 3 _;have q1:((y.setCell ⟨B,3,none⟩ (.int .i64 p.key)).setCell ⟨B,4,none⟩ (.slice o2 n2 c2)).heap[B]? =some (.cells #[.int .i64 kj,.slice o nj c,.int .i64 sj,.int .i64 p.key,.slice o2 n2 c2,.slice oR nr cR,.slice ot nt ct] 34 (0,0)):=Q06 q0 4 _
 refine ⟨⟨_,_,_,_,by rw [e1,e3],h1.mono (Kaq _) (by omega),h2,hin2.mono (by omega) (by omega),h4.mono (Kaq _) (by omega)⟩,⟨⟨hf.1.1,hl,hf.1.2.2⟩,hf.2⟩,Q06 q1 5 _,s.box hry (.inl hB),(hd.step hd2.cur ?_).below hk (s.below (by omega) (by have:=hd.gr.size;omega))⟩
 exact g2
theorem BFin.tab {k B:Nat} {w0 x y:World} {m:Bm} {kj:Int} {o:Option Addr} {nj c:Nat} {sj kp:Int} {ob:Option Addr} {np cb:Nat} {oR:Option Addr} {nr cR:Nat} {ot:Option Addr} {nt ct:Nat} {l:List Sl} {o2:Option Addr} {n2 c2:Nat} (hk:k < w0.heap.size) (hB:w0.heap.size < B) (hv:OrBr (w0.heap.size+1) B x (Q1d kj (.slice o nj c) sj kp (.slice ob np cb) (.slice oR nr cR) (.slice ot nt ct)) m) (hf:fitBm m∧m.t.length≤16) (hb:x.heap[B]? =some (.cells #[.int .i64 kj,.slice o nj c,.int .i64 sj,.int .i64 kp,.slice ob np cb,.slice oR nr cR,.slice ot nt ct] 34 (0,0))) (hr:x.heap[w0.heap.size]? =some (.cells #[.int .i64 0,.slice none 0 0,.int .i64 0,.int .i64 0,.slice none 0 0,.slice none 0 0,.slice none 0 0] 34 (0,0))) (hd:Dr k w0 x) (hc2:isCur k y) (g2:x.grownBy y (some k)) (hj:InS x.heap.size y.heap.size y (.slice o2 n2 c2) l) (hl:l.length≤16):BFin k B w0 (y.setCell ⟨B,6,none⟩ (.slice o2 n2 c2)) ⟨m.j,m.p,l⟩ kj o nj c sj kp ob np cb oR nr cR o2 n2 c2:=by
 have hbl:=(Array.getElem?_eq_some_iff.1 hb).1
 have hrl:=(Array.getElem?_eq_some_iff.1 hr).1
 have hby:=Q09 g2 hbl (by omega) hb
 have hry:=Q09 g2 hrl (by omega) hr
 have s:=Q0t y B 6 (.slice o2 n2 c2);have hz:=g2.size;have hsz:=s.size
 have v1:=(hv.step (Stp.grown (lo:=k) (hi:=k+1) g2 (fun q e=> by injection e with e;omega)) (.inl (by omega))).step s (.inr (Kaq _))
 obtain ⟨vl,vb,vr,vt,e,h1,h2,h3,h4⟩:=v1
 simp only [Value.agg.injEq,Array.mk.injEq,List.cons.injEq,and_true,true_and,Value.int.injEq] at e
 obtain ⟨e1,e2,e3,e4,e5,e6,e7⟩:=e;subst e2 e5 e6 e7
 have hin2:=InRow.step hj s (.inl (by omega))
 exact ⟨⟨_,_,_,_,by rw [e1,e3,e4],h1.mono (Kaq _) (by omega),h2,h3.mono (Kaq _) (by omega),(InRow.ri hin2).mono (by omega) (by omega)⟩,⟨⟨hf.1.1,hf.1.2.1,by show l.length≤_;omega⟩,hl⟩,Q06 hby 6 _,s.box hry (.inl hB),(hd.step hc2 g2).below hk (s.below (by omega) (by have:=hd.gr.size;omega))⟩
theorem BFin.safe {k B:Nat} {w0 x y:World} {m:Bm} {kj:Int} {o:Option Addr} {nj c:Nat} {sj kp:Int} {ob:Option Addr} {np cb:Nat} {oR:Option Addr} {nr cR:Nat} {ot:Option Addr} {nt ct:Nat} (sn:Int) (hk:k < w0.heap.size) (hB:w0.heap.size < B) (hv:OrBr (w0.heap.size+1) B x (Q1d kj (.slice o nj c) sj kp (.slice ob np cb) (.slice oR nr cR) (.slice ot nt ct)) m) (hf:fitBm m∧m.t.length≤16) (hb:x.heap[B]? =some (.cells #[.int .i64 kj,.slice o nj c,.int .i64 sj,.int .i64 kp,.slice ob np cb,.slice oR nr cR,.slice ot nt ct] 34 (0,0))) (hr:x.heap[w0.heap.size]? =some (.cells #[.int .i64 0,.slice none 0 0,.int .i64 0,.int .i64 0,.slice none 0 0,.slice none 0 0,.slice none 0 0] 34 (0,0))) (hd:Dr k w0 x) (hc2:isCur k y) (g2:x.grownBy y (some k)):BFin k B w0 (y.setCell ⟨B,2,none⟩ (.int .i64 sn)) ⟨⟨m.j.key,m.j.l,sn⟩,m.p,m.t⟩ kj o nj c sn kp ob np cb oR nr cR ot nt ct:=by
 have hbl:=(Array.getElem?_eq_some_iff.1 hb).1
 have hrl:=(Array.getElem?_eq_some_iff.1 hr).1
 have hby:=Q09 g2 hbl (by omega) hb
 have hry:=Q09 g2 hrl (by omega) hr
 have s:=Q0t y B 2 (.int .i64 sn);have hz:=g2.size;have hsz:=s.size
 have v1:=(hv.step (Stp.grown (lo:=k) (hi:=k+1) g2 (fun q e=> by injection e with e;omega)) (.inl (by omega))).step s (.inr (Kaq _))
 obtain ⟨vl,vb,vr,vt,e,h1,h2,h3,h4⟩:=v1
 simp only [Value.agg.injEq,Array.mk.injEq,List.cons.injEq,and_true,true_and,Value.int.injEq] at e
 obtain ⟨e1,e2,e3,e4,e5,e6,e7⟩:=e;subst e2 e5 e6 e7
 exact ⟨⟨_,_,_,_,by rw [e1,e4],h1.mono (Kaq _) (by omega),h2,h3.mono (Kaq _) (by omega),h4.mono (Kaq _) (by omega)⟩,hf,Q06 hby 2 _,s.box hry (.inl hB),(hd.step hc2 g2).below hk (s.below (by omega) (by have:=hd.gr.size;omega))⟩
theorem BFin.none {k B:Nat} {w0 x:World} {m:Bm} {kj:Int} {o:Option Addr} {nj c:Nat} {sj kp:Int} {ob:Option Addr} {np cb:Nat} {oR:Option Addr} {nr cR:Nat} {ot:Option Addr} {nt ct:Nat} (hv:OrBr (w0.heap.size+1) B x (Q1d kj (.slice o nj c) sj kp (.slice ob np cb) (.slice oR nr cR) (.slice ot nt ct)) m) (hf:fitBm m∧m.t.length≤16) (hb:x.heap[B]? =some (.cells #[.int .i64 kj,.slice o nj c,.int .i64 sj,.int .i64 kp,.slice ob np cb,.slice oR nr cR,.slice ot nt ct] 34 (0,0))) (hr:x.heap[w0.heap.size]? =some (.cells #[.int .i64 0,.slice none 0 0,.int .i64 0,.int .i64 0,.slice none 0 0,.slice none 0 0,.slice none 0 0] 34 (0,0))) (hd:Dr k w0 x):BFin k B w0 x m kj o nj c sj kp ob np cb oR nr cR ot nt ct:=
 ⟨hv.mono (Kaq _) (Nat.le_of_lt (Array.getElem?_eq_some_iff.1 hb).1),hf,hb,hr,hd⟩
theorem Qco (k:Nat) (w:World) (hc:isCur k w) (hk:k < w.heap.size):
  Calls Tryz.prog 35 #[.pointer (some ⟨k,0,none⟩)] w fun e w'=> ∃(kj:Int) (o:Option Addr) (nj c:Nat) (sj kp:Int) (ob:Option Addr) (np cb:Nat) (oR:Option Addr) (nr cR:Nat) (ot:Option Addr) (nt ct:Nat) (m:Bm),e=.returned (Q1d kj (.slice o nj c) sj kp (.slice ob np cb) (.slice oR nr cR) (.slice ot nt ct))∧OrBr w.heap.size w'.heap.size w' (Q1d kj (.slice o nj c) sj kp (.slice ob np cb) (.slice oR nr cR) (.slice ot nt ct)) m∧(fitBm m∧m.t.length≤16)∧Dr k w w':=by
 obtain ⟨W0,hW0⟩:∃W,w.alloc (.cells #[.int .i64 0,.slice none 0 0,.int .i64 0,.int .i64 0,.slice none 0 0,.slice none 0 0,.slice none 0 0] 34)=W:=⟨_,rfl⟩
 have hb0:Below w.heap.size w W0:=by rw [←hW0];exact (Below.refl _ _).alloc (Kaq _) _
 have HD0:=Q02 (show Dr k w W0 from ⟨hc.below (hb0.mono hk),by rw [←hW0];exact Q0r w _ k⟩)
 have HR0:Hid (W0.heap[w.heap.size]? =some (.cells #[.int .i64 0,.slice none 0 0,.int .i64 0,.int .i64 0,.slice none 0 0,.slice none 0 0,.slice none 0 0] 34 (0,0))):=by rw [←hW0];exact World.alloc_heap_new w _
 have hs0:w.heap.size < W0.heap.size:=by rw [←hW0];simp
 have hz0:W0.heap.size=w.heap.size+1:=by rw [←hW0];simp
 have HZ:=Q02 hz0;clear hb0 hc hz0
 go_enter Tryz.func35,Tryz.ntmps35
 go_wp2_with fail
 refine (QbR k W0 HD0.out.cur (Nat.lt_trans hk hs0)).mono ?_
 rintro e w1 ⟨v,m,rfl,hok,ho,hd1⟩
 have HV:=Q02 ho.br;obtain ⟨kj,o,nj,c,sj,kp,ob,np,cb,oR,nr,cR,ot,nt,ct,rfl⟩:=ho.br.opn;have HFM:Hid (fitBm m∧m.t.length≤16):=⟨Q89 hok,(Q0i.1 (Q29 hok)).2.1⟩;have hs1:w.heap.size < w1.heap.size:=Kbq hs0 hd1.gr.size;have HD1:=Q02 (HD0.out.step hd1.cur hd1.gr)
 have HR1:=Q02 (Q09 hd1.gr hs0 (by omega) HR0.out)
 replace HV:=Q02 (HV.out.mono (show w.heap.size+1≤_ by rw [HZ.out];omega) (Kaq _))
 clear ho hd1 HD0 HR0 HZ hok;obtain ⟨W2,hW2⟩:∃W,w1.alloc (.cells #[.int .i64 kj,.slice o nj c,.int .i64 sj,.int .i64 kp,.slice ob np cb,.slice oR nr cR,.slice ot nt ct] 34)=W:=⟨_,rfl⟩
 have hb2:Below w1.heap.size w1 W2:=by rw [←hW2];exact (Below.refl _ _).alloc (Kaq _) _
 have HX2:Hid (W2.heap[w1.heap.size]? =some (.cells #[.int .i64 kj,.slice o nj c,.int .i64 sj,.int .i64 kp,.slice ob np cb,.slice oR nr cR,.slice ot nt ct] 34 (0,0))):=by rw [←hW2];exact World.alloc_heap_new w1 _
 have HV2:=Q02 (HV.out.step (Stp.of (lo:=0) (hi:=0) hb2) (.inl (Kcq _)));have HR2:=Q02 ((hb2.block _ hs1).trans HR1.out);have HD2:=Q02 (HD1.out.below hk (hb2.mono (Nat.le_of_lt hs1)));clear hb2 HV HR1 HD1
 go_wp2_with fail
 obtain ⟨B,hB⟩:∃B,w1.heap.size=B:=⟨_,rfl⟩
 simp only [hB] at HX2 HV2 hs1 ⊢
 clear hB hW2
 refine (Q1g k 8 W2 HD2.out.cur (by decide) (by decide)).mono ?_
 rintro e x1 ⟨y,rfl,hc1,hg1⟩
 have HX:=Q02 (Q09 hg1 (Array.getElem?_eq_some_iff.1 HX2.out).1 (by omega) HX2.out)
 have HR:=Q02 (Q09 hg1 (Array.getElem?_eq_some_iff.1 HR2.out).1 (by omega) HR2.out)
 have HV:=Q02 (HV2.out.step (Stp.grown (lo:=k) (hi:=k+1) hg1 (fun q e=> by injection e with e;omega)) (.inl (by omega)))
 have HD:=Q02 (HD2.out.step hc1 hg1);clear hc1 hg1 HX2 HR2 HV2 HD2 hs0
 cases y with
 |false=>
  have HF:=Q02 (BFin.none HV.out HFM.out HX.out HR.out HD.out);clear HX HR HV HD HFM;obtain ⟨bx,rs⟩:=(⟨HF.out.box,HF.out.res⟩:_∧_);have y0:=Q00 bx 0 _ rfl;have y1:=Q00 bx 1 _ rfl;have y2:=Q00 bx 2 _ rfl;have y3:=Q00 bx 3 _ rfl;have y4:=Q00 bx 4 _ rfl;have y5:=Q00 bx 5 _ rfl;have y6:=Q00 bx 6 _ rfl;have z0:=Q00 rs 0 _ rfl;have fz0:=Q01 rs 0;have z1:=Q00 rs 1 _ rfl;have fz1:=Q01 rs 1;have z2:=Q00 rs 2 _ rfl;have fz2:=Q01 rs 2;have z3:=Q00 rs 3 _ rfl;have fz3:=Q01 rs 3;have z4:=Q00 rs 4 _ rfl;have fz4:=Q01 rs 4;have z5:=Q00 rs 5 _ rfl;have fz5:=Q01 rs 5;have z6:=Q00 rs 6 _ rfl;have fz6:=Q01 rs 6
  have HE:=Q02 (HF.out.ended hk);have HT:=Q02 HF.out.fit;clear HF bx rs
  go_wp2
  refine bodyPost_ret (v:=Q1d kj (.slice o nj c) sj kp (.slice ob np cb) (.slice oR nr cR) (.slice ot nt ct)) (by simp [results,Tryz.results35,go_sem,y0,y1,y2,y3,y4,y5,y6,z0,z1,z2,z3,z4,z5,z6]) rfl ⟨_,_,_,_,_,_,_,_,_,_,_,_,_,_,_,_,rfl,HE.out.1,HT.out,HE.out.2⟩
 |true=>
  go_wp2_with fail
  refine (Q0m k 4 x1 HD.out.cur (by decide) (by decide)).mono ?_
  rintro e x2 ⟨t9,rfl,ht0,ht4,hc1,hg1⟩
  replace HX:=Q02 (Q09 hg1 (Array.getElem?_eq_some_iff.1 HX.out).1 (by omega) HX.out)
  replace HR:=Q02 (Q09 hg1 (Array.getElem?_eq_some_iff.1 HR.out).1 (by omega) HR.out)
  replace HV:=Q02 (HV.out.step (Stp.grown (lo:=k) (hi:=k+1) hg1 (fun q e=> by injection e with e;omega)) (.inl (by omega)))
  replace HD:=Q02 (HD.out.step hc1 hg1);clear hc1 hg1;have hk2:k < x2.heap.size:=Kbq hk HD.out.gr.size
  have hbl:B < x2.heap.size:=(Array.getElem?_eq_some_iff.1 HX.out).1
  have hq:t9=0∨t9=1∨t9=2∨t9=3:=by omega
  clear ht0 ht4
  rcases hq with rfl|rfl|rfl|rfl
  ·go_wp2_with fail
   refine (QaC k x2 HD.out.cur hk2).mono ?_
   rintro e x3 ⟨v9,j,rfl,hj,hl,hd⟩
   obtain ⟨vl,rfl,hin⟩:=hj;obtain ⟨o2,c2,rfl,hrl⟩:=InRow.ri hin;have hin9:=Q02 (BFin.jrn hk hs1 HV.out HFM.out HX.out HR.out HD.out hd ⟨_,rfl,hin⟩ hl)
   have gX:=Q09 hd.gr (Array.getElem?_eq_some_iff.1 HX.out).1 (by omega) HX.out;have gR:=Q09 hd.gr (Array.getElem?_eq_some_iff.1 HR.out).1 (by omega) HR.out;have b0:=Q00 gX 0 _ rfl;have fb0:=Q01 gX 0;have z0:=Q00 gR 0 _ rfl;have fz0:=Q01 gR 0;have b1:=Q00 gX 1 _ rfl;have fb1:=Q01 gX 1;have z1:=Q00 gR 1 _ rfl;have fz1:=Q01 gR 1;have b2:=Q00 gX 2 _ rfl;have fb2:=Q01 gX 2;have z2:=Q00 gR 2 _ rfl;have fz2:=Q01 gR 2;have b3:=Q00 gX 3 _ rfl;have fb3:=Q01 gX 3;have z3:=Q00 gR 3 _ rfl;have fz3:=Q01 gR 3;have b4:=Q00 gX 4 _ rfl;have fb4:=Q01 gX 4;have z4:=Q00 gR 4 _ rfl;have fz4:=Q01 gR 4;have b5:=Q00 gX 5 _ rfl;have fb5:=Q01 gX 5;have z5:=Q00 gR 5 _ rfl;have fz5:=Q01 gR 5;have b6:=Q00 gX 6 _ rfl;have fb6:=Q01 gX 6;have z6:=Q00 gR 6 _ rfl;have fz6:=Q01 gR 6;have HE:=Q02 (hin9.out.ended hk);have HT:=Q02 hin9.out.fit;clear gX gR
   clear hin hrl hd HX HR HV HD HFM;clear hin9
   go_wp2
   refine bodyPost_ret (v:=Q1d j.key (.slice o2 j.l.length c2) j.safe kp (.slice ob np cb) (.slice oR nr cR) (.slice ot nt ct)) (by simp [results,Tryz.results35,go_sem,b0,b1,b2,b3,b4,b5,b6,z0,z1,z2,z3,z4,z5,z6]) rfl ⟨_,_,_,_,_,_,_,_,_,_,_,_,_,_,_,_,rfl,HE.out.1,HT.out,HE.out.2⟩
  ·go_wp2_with fail
   refine (QbQ k x2 HD.out.cur hk2).mono ?_
   rintro e x3 ⟨v9,p,rfl,hj,hl,hd⟩
   obtain ⟨o2,c2,o3,c3,rfl⟩:=hj.opn;have hin9:=Q02 (BFin.pool hk hs1 HV.out HFM.out HX.out HR.out HD.out hd hj hl)
   have gX:=Q09 hd.gr (Array.getElem?_eq_some_iff.1 HX.out).1 (by omega) HX.out;have gR:=Q09 hd.gr (Array.getElem?_eq_some_iff.1 HR.out).1 (by omega) HR.out;have b0:=Q00 gX 0 _ rfl;have fb0:=Q01 gX 0;have z0:=Q00 gR 0 _ rfl;have fz0:=Q01 gR 0;have b1:=Q00 gX 1 _ rfl;have fb1:=Q01 gX 1;have z1:=Q00 gR 1 _ rfl;have fz1:=Q01 gR 1;have b2:=Q00 gX 2 _ rfl;have fb2:=Q01 gX 2;have z2:=Q00 gR 2 _ rfl;have fz2:=Q01 gR 2;have b3:=Q00 gX 3 _ rfl;have fb3:=Q01 gX 3;have z3:=Q00 gR 3 _ rfl;have fz3:=Q01 gR 3;have b4:=Q00 gX 4 _ rfl;have fb4:=Q01 gX 4;have z4:=Q00 gR 4 _ rfl;have fz4:=Q01 gR 4;have b5:=Q00 gX 5 _ rfl;have fb5:=Q01 gX 5;have z5:=Q00 gR 5 _ rfl;have fz5:=Q01 gR 5;have b6:=Q00 gX 6 _ rfl;have fb6:=Q01 gX 6;have z6:=Q00 gR 6 _ rfl;have fz6:=Q01 gR 6;have HE:=Q02 (hin9.out.ended hk);have HT:=Q02 hin9.out.fit;clear gX gR
   clear hj hd HX HR HV HD HFM;clear hin9
   go_wp2
   refine bodyPost_ret (v:=Q1d kj (.slice o nj c) sj p.key (.slice o2 p.l.length c2) (.slice o3 p.ring.length c3) (.slice ot nt ct)) (by simp [results,Tryz.results35,go_sem,b0,b1,b2,b3,b4,b5,b6,z0,z1,z2,z3,z4,z5,z6]) rfl ⟨_,_,_,_,_,_,_,_,_,_,_,_,_,_,_,_,rfl,HE.out.1,HT.out,HE.out.2⟩
  ·go_wp2_with fail
   refine (Qcy k x2 HD.out.cur hk2).mono ?_
   rintro e x3 ⟨v9,l,rfl,⟨hl1,hl2⟩,hj,hc,hg⟩
   obtain ⟨vl,rfl,hin⟩:=hj;obtain ⟨o2,c2,rfl,hrl⟩:=InRow.ri hin;have hin9:=Q02 (BFin.tab hk hs1 HV.out HFM.out HX.out HR.out HD.out hc hg hin hl2);have hd:Dr k x2 x3:=⟨hc,hg⟩
   have gX:=Q09 hd.gr (Array.getElem?_eq_some_iff.1 HX.out).1 (by omega) HX.out;have gR:=Q09 hd.gr (Array.getElem?_eq_some_iff.1 HR.out).1 (by omega) HR.out;have b0:=Q00 gX 0 _ rfl;have fb0:=Q01 gX 0;have z0:=Q00 gR 0 _ rfl;have fz0:=Q01 gR 0;have b1:=Q00 gX 1 _ rfl;have fb1:=Q01 gX 1;have z1:=Q00 gR 1 _ rfl;have fz1:=Q01 gR 1;have b2:=Q00 gX 2 _ rfl;have fb2:=Q01 gX 2;have z2:=Q00 gR 2 _ rfl;have fz2:=Q01 gR 2;have b3:=Q00 gX 3 _ rfl;have fb3:=Q01 gX 3;have z3:=Q00 gR 3 _ rfl;have fz3:=Q01 gR 3;have b4:=Q00 gX 4 _ rfl;have fb4:=Q01 gX 4;have z4:=Q00 gR 4 _ rfl;have fz4:=Q01 gR 4;have b5:=Q00 gX 5 _ rfl;have fb5:=Q01 gX 5;have z5:=Q00 gR 5 _ rfl;have fz5:=Q01 gR 5;have b6:=Q00 gX 6 _ rfl;have fb6:=Q01 gX 6;have z6:=Q00 gR 6 _ rfl;have fz6:=Q01 gR 6;have HE:=Q02 (hin9.out.ended hk);have HT:=Q02 hin9.out.fit;clear gX gR
   clear hin hrl hd hc hg hl1 hl2 HX HR HV HD HFM;clear hin9
   go_wp2
   refine bodyPost_ret (v:=Q1d kj (.slice o nj c) sj kp (.slice ob np cb) (.slice oR nr cR) (.slice o2 l.length c2)) (by simp [results,Tryz.results35,go_sem,b0,b1,b2,b3,b4,b5,b6,z0,z1,z2,z3,z4,z5,z6]) rfl ⟨_,_,_,_,_,_,_,_,_,_,_,_,_,_,_,_,rfl,HE.out.1,HT.out,HE.out.2⟩
  ·have b0:=Q00 HX.out 0 _ rfl;have fb0:=Q01 HX.out 0;have b1:=Q00 HX.out 1 _ rfl;have fb1:=Q01 HX.out 1;have b2:=Q00 HX.out 2 _ rfl;have fb2:=Q01 HX.out 2;have b3:=Q00 HX.out 3 _ rfl;have fb3:=Q01 HX.out 3;have b4:=Q00 HX.out 4 _ rfl;have fb4:=Q01 HX.out 4;have b5:=Q00 HX.out 5 _ rfl;have fb5:=Q01 HX.out 5;have b6:=Q00 HX.out 6 _ rfl;have fb6:=Q01 HX.out 6
   have hnj:nj≤100000:=by rw [(HV.out.eqs).2.1];exact HFM.out.1.1
   go_wp2_with fail
   refine (Q0m k ((nj:Int)+1) x2 HD.out.cur (by omega) (by omega)).mono ?_
   rintro e x3 ⟨sn,rfl,hl1,hl2,hc,hg⟩
   have hin9:=Q02 (BFin.safe sn hk hs1 HV.out HFM.out HX.out HR.out HD.out hc hg);have hd:Dr k x2 x3:=⟨hc,hg⟩;clear b0 b1 b2 b3 b4 b5 b6 fb0 fb1 fb2 fb3 fb4 fb5 fb6
   have gX:=Q09 hd.gr (Array.getElem?_eq_some_iff.1 HX.out).1 (by omega) HX.out;have gR:=Q09 hd.gr (Array.getElem?_eq_some_iff.1 HR.out).1 (by omega) HR.out;have b0:=Q00 gX 0 _ rfl;have fb0:=Q01 gX 0;have z0:=Q00 gR 0 _ rfl;have fz0:=Q01 gR 0;have b1:=Q00 gX 1 _ rfl;have fb1:=Q01 gX 1;have z1:=Q00 gR 1 _ rfl;have fz1:=Q01 gR 1;have b2:=Q00 gX 2 _ rfl;have fb2:=Q01 gX 2;have z2:=Q00 gR 2 _ rfl;have fz2:=Q01 gR 2;have b3:=Q00 gX 3 _ rfl;have fb3:=Q01 gX 3;have z3:=Q00 gR 3 _ rfl;have fz3:=Q01 gR 3;have b4:=Q00 gX 4 _ rfl;have fb4:=Q01 gX 4;have z4:=Q00 gR 4 _ rfl;have fz4:=Q01 gR 4;have b5:=Q00 gX 5 _ rfl;have fb5:=Q01 gX 5;have z5:=Q00 gR 5 _ rfl;have fz5:=Q01 gR 5;have b6:=Q00 gX 6 _ rfl;have fb6:=Q01 gX 6;have z6:=Q00 gR 6 _ rfl;have fz6:=Q01 gR 6;have HE:=Q02 (hin9.out.ended hk);have HT:=Q02 hin9.out.fit;clear gX gR
   clear hd hc hg hl1 hl2 HX HR HV HD HFM hnj;clear hin9
   go_wp2
   refine bodyPost_ret (v:=Q1d kj (.slice o nj c) sn kp (.slice ob np cb) (.slice oR nr cR) (.slice ot nt ct)) (by simp [results,Tryz.results35,go_sem,b0,b1,b2,b3,b4,b5,b6,z0,z1,z2,z3,z4,z5,z6]) rfl ⟨_,_,_,_,_,_,_,_,_,_,_,_,_,_,_,_,rfl,HE.out.1,HT.out,HE.out.2⟩
abbrev QfT (W:World) (R:Nat) (x0 x1 x2 x3 x4:Value):World:=((((W.setCell ⟨R,0,none⟩ x0).setCell ⟨R,1,none⟩ x1).setCell ⟨R,2,none⟩ x2).setCell ⟨R,3,none⟩ x3).setCell ⟨R,4,none⟩ x4
theorem QdE (W:World) (R:Nat) (x0 x1 x2 x3 x4:Value):Stp R (R+1) W (QfT W R x0 x1 x2 x3 x4):=((((Q0t W R 0 x0).trans (Q0t _ R 1 x1)).trans (Q0t _ R 2 x2)).trans (Q0t _ R 3 x3)).trans (Q0t _ R 4 x4)
theorem Q4B {w x y:World} {K:Nat} (h:Below w.heap.size w x) (g:x.grownBy y (some K)) (hK:w.heap.size≤K):Below w.heap.size w y:=
 ⟨g.os.trans h.os,g.tape.trans h.tape,g.output.trans h.output,Kdq h.size g.size,fun q hq=> (g.block q (Kbq hq h.size) (by simp;omega)).trans (h.block q hq)⟩
theorem Q7G {w w':World} {K:Nat} (hg:w.grownBy w' (some K)):Stp K (K+1) w w':=Stp.grown hg (fun b e=> by have:K=b:=Option.some.inj e;omega)
theorem OrBr.use {lo hi:Nat} {w:World} {kj:Int} {o:Option Addr} {nj c:Nat} {sj kp:Int} {ob:Option Addr} {np cb:Nat} {oR:Option Addr} {nr cR:Nat} {ot:Option Addr} {nt ct:Nat} {m:Bm} (h:OrBr lo hi w (Q1d kj (.slice o nj c) sj kp (.slice ob np cb) (.slice oR nr cR) (.slice ot nt ct)) m) (hh:hi≤w.heap.size) (hf:fitBm m∧m.t.length≤16):∃lj lb lr lt,m=⟨⟨kj,lj,sj⟩,⟨kp,lb,lr⟩,lt⟩∧nj=lj.length∧nt=lt.length∧RdC w.heap.size w o lj∧(o=none→c=0)∧Q9S w.heap.size w (plv kp (.slice ob np cb) (.slice oR nr cR)) ⟨kp,lb,lr⟩∧RdS w.heap.size w ot lt∧Q9U ⟨⟨kj,lj,sj⟩,⟨kp,lb,lr⟩,lt⟩:=by
 obtain ⟨e1,e2,e3⟩:=h.eqs;obtain ⟨vl,vb,vr,vt,e,h1,h2,h3,h4⟩:=h
 simp only [Value.agg.injEq,Array.mk.injEq,List.cons.injEq,and_true,true_and,Value.int.injEq] at e
 obtain ⟨_,k2,_,_,k5,k6,k7⟩:=e;subst k2 k5 k6 k7;obtain ⟨o1,c1,q1,r1⟩:=h1.open
 injection q1 with q11 q12 q13
 subst q11;obtain ⟨o4,c4,q4,r4⟩:=h4.open
 injection q4 with q41 q42 q43
 subst q41;have hp:=(e3.rd);have e4:m.p=⟨kp,m.p.l,m.p.ring⟩:=congrArg Bm.p e1
 rw [e4] at hp
 refine ⟨m.j.l,m.p.l,m.p.ring,m.t,e1,e2,q42,r1.le hh,(fun h=> h2 _ _ (by rw [h])),hp.le hh,r4.le hh, ?_⟩
 rw [←e1]
 exact hf.1.b0
theorem Q9K (o0:Option Addr) (cap:Nat) (l:List Int) (w:World) (hR:Rd w o0 l) (hB8:isB l) (hm:l.length≤maxLen):
  Calls Tryz.prog 17 #[.slice o0 l.length cap] w fun e w'=> ∃(kj:Int) (o:Option Addr) (nj c:Nat) (sj kp:Int) (ob:Option Addr) (np cb:Nat) (oR:Option Addr) (nr cR:Nat) (ot:Option Addr) (nt ct:Nat) (m:Bm) (now a b f s:Int) (po:Option Addr) (pn pc:Nat) (L:List Int),e=.returned (.tuple #[Q1d kj (.slice o nj c) sj kp (.slice ob np cb) (.slice oR nr cR) (.slice ot nt ct),.int .i64 now,pkt a b f s (.slice po pn pc)])∧OrBr w.heap.size w'.heap.size w' (Q1d kj (.slice o nj c) sj kp (.slice ob np cb) (.slice oR nr cR) (.slice ot nt ct)) m∧(fitBm m∧m.t.length≤16)∧pn=L.length∧L.length≤2000∧InB w.heap.size w'.heap.size w' (.slice po pn pc) L∧Below w.heap.size w w':=by
 obtain ⟨W0,hW0⟩:∃W,(w.alloc (.cells #[.int .i64 0,.slice none 0 0,.int .i64 0,.int .i64 0,.slice none 0 0,.slice none 0 0,.slice none 0 0] 34)).alloc (.cells #[.int .i64 0,.int .i64 0,.int .i64 0,.int .i64 0,.slice none 0 0] 38)=W:=⟨_,rfl⟩
 have hb0:Below w.heap.size w W0:=by rw [←hW0];exact (((Below.refl _ _).alloc (Kaq _) _).alloc (by simp <;> omega) _)
 have HR0:Hid (W0.heap[w.heap.size]? =some (.cells #[.int .i64 0,.slice none 0 0,.int .i64 0,.int .i64 0,.slice none 0 0,.slice none 0 0,.slice none 0 0] 34 (0,0))):=by rw [←hW0];exact Q3E w _ _ _
 have HK0:Hid (W0.heap[w.heap.size+1]? =some (.cells #[.int .i64 0,.int .i64 0,.int .i64 0,.int .i64 0,.slice none 0 0] 38 (0,0))):=by rw [←hW0];exact Q1N w _ _ _
 have hs0:w.heap.size+1 < W0.heap.size:=by rw [←hW0];simp
 have HNW:=Q02 (Qen o0 cap l W0 (hR.kept hb0) hB8 hm);have HB0:=Q02 hb0;clear hR hb0
 go_enter Tryz.func17,Tryz.ntmps17
 go_wp2_with fail
 refine HNW.out.mono ?_
 rintro e w1 ⟨rfl,hc1,hb1,hs1⟩
 obtain ⟨K,hK⟩:∃K,W0.heap.size=K:=⟨_,rfl⟩
 have HR1:=Q02 ((hb1.block _ (by omega)).trans HR0.out)
 have HK1:=Q02 ((hb1.block _ (by omega)).trans HK0.out)
 have HB1:=Q02 (HB0.out.trans (hb1.mono HB0.out.size))
 simp only [hK] at hs0 hs1 hc1 ⊢
 have HC1:=Q02 hc1;clear hb1 hc1 HR0 HK0 HB0 HNW hK hW0
 go_wp2_with fail
 refine (Qco K w1 HC1.out hs1).mono ?_
 rintro e w2 ⟨kj,o,nj,c,sj,kp,ob,np,cb,oR,nr,cR,ot,nt,ct,m,rfl,hv,hf,hd2⟩
 have HV2:=Q02 hv;have HF:=Q02 hf
 have HR2:=Q02 (Q09 hd2.gr (show w.heap.size < w1.heap.size by omega) (by omega) HR1.out)
 have HK2:=Q02 (Q09 hd2.gr (show w.heap.size+1 < w1.heap.size by omega) (by omega) HK1.out)
 have HB2:=Q02 (Q4B HB1.out hd2.gr (by omega))
 have HC2:=Q02 hd2.cur;have hs21:w1.heap.size≤w2.heap.size:=hd2.gr.size;clear hv hf hd2 HR1 HK1 HB1 HC1
 go_wp2_with fail
 refine (Q2l K [0,5,100000,100001, -1,9] w2 HC2.out (by omega) (by decide) (by decide)).mono ?_
 rintro e w3 ⟨now,_,rfl,hc3,hg3⟩
 have HV3:=Q02 (HV2.out.step (Q7G hg3) (.inl (by omega)))
 have HR3:=Q02 (Q09 hg3 (show w.heap.size < w2.heap.size by omega) (by omega) HR2.out)
 have HK3:=Q02 (Q09 hg3 (show w.heap.size+1 < w2.heap.size by omega) (by omega) HK2.out)
 have HB3:=Q02 (Q4B HB2.out hg3 (by omega))
 have HC3:=Q02 hc3;have hs32:w2.heap.size≤w3.heap.size:=hg3.size;clear hc3 hg3 HR2 HK2 HB2 HC2 HV2
 go_wp2_with fail
 refine (Qc4 K w3 HC3.out (by omega)).mono ?_
 rintro e w4 ⟨a,b,f,s,v9,L,rfl,ho,hL8,hL2,hc4,hg4⟩
 have hib:=InB.of ho;obtain ⟨po,pc,rfl,_⟩:=InRow.ri hib;obtain ⟨pn,hpn⟩:∃x,L.length=x:=⟨_,rfl⟩
 rw [hpn] at hib ⊢
 have hs43:w3.heap.size≤w4.heap.size:=hg4.size
 have hr4:=Q09 hg4 (show w.heap.size < w3.heap.size by omega) (by omega) HR3.out
 have hk4:=Q09 hg4 (show w.heap.size+1 < w3.heap.size by omega) (by omega) HK3.out
 have HB4:=Q02 (Q4B HB3.out hg4 (by omega))
 have sB:=Q1a w4 w.heap.size (.int .i64 kj) (.slice o nj c) (.int .i64 sj) (.int .i64 kp) (.slice ob np cb) (.slice oR nr cR) (.slice ot nt ct);have sP:=QdE (Q1Q w4 (w.heap.size) (.int .i64 kj) (.slice o nj c) (.int .i64 sj) (.int .i64 kp) (.slice ob np cb) (.slice oR nr cR) (.slice ot nt ct)) (w.heap.size+1) (.int .i64 a) (.int .i64 b) (.int .i64 f) (.int .i64 s) (.slice po pn pc);have hz1:((Q1Q w4 (w.heap.size) (.int .i64 kj) (.slice o nj c) (.int .i64 sj) (.int .i64 kp) (.slice ob np cb) (.slice oR nr cR) (.slice ot nt ct))).heap.size=w4.heap.size:=Q0F _ _ _ _ _ _ _ _ _
 have hz2:w4.heap.size≤((QfT (Q1Q w4 (w.heap.size) (.int .i64 kj) (.slice o nj c) (.int .i64 sj) (.int .i64 kp) (.slice ob np cb) (.slice oR nr cR) (.slice ot nt ct)) (w.heap.size+1) (.int .i64 a) (.int .i64 b) (.int .i64 f) (.int .i64 s) (.slice po pn pc))).heap.size:=Kdq (Nat.le_of_eq hz1.symm) sP.size
 have HV5:=Q02 (((((HV3.out.step (Q7G hg4) (.inl (by omega))).step sB (.inl (by omega))).step sP (.inl (by omega))).mono (show w.heap.size≤_ by omega) (show _≤((QfT (Q1Q w4 (w.heap.size) (.int .i64 kj) (.slice o nj c) (.int .i64 sj) (.int .i64 kp) (.slice ob np cb) (.slice oR nr cR) (.slice ot nt ct)) (w.heap.size+1) (.int .i64 a) (.int .i64 b) (.int .i64 f) (.int .i64 s) (.slice po pn pc))).heap.size by omega)))
 have HI5:=Q02 ((((InRow.step hib sB (.inl (by omega)))).step sP (.inl (by omega))).mono (show w.heap.size≤_ by omega) (show _≤((QfT (Q1Q w4 (w.heap.size) (.int .i64 kj) (.slice o nj c) (.int .i64 sj) (.int .i64 kp) (.slice ob np cb) (.slice oR nr cR) (.slice ot nt ct)) (w.heap.size+1) (.int .i64 a) (.int .i64 b) (.int .i64 f) (.int .i64 s) (.slice po pn pc))).heap.size by omega))
 have HB5:=Q02 ((HB4.out.trans (sB.below (Kaq _) HB4.out.size)).trans (sP.below (Nat.le_succ _) (by rw [hz1];exact HB4.out.size)))
 have HPN:=Q02 hpn;have hpl:L.length≤2000:=hL2;have HPL:=Q02 hpl;have HF2:=Q02 HF.out;have r0:=Q00 hr4 0 _ rfl;have rf0:=Q01 hr4 0;have r1:=Q00 hr4 1 _ rfl;have rf1:=Q01 hr4 1;have r2:=Q00 hr4 2 _ rfl;have rf2:=Q01 hr4 2;have r3:=Q00 hr4 3 _ rfl;have rf3:=Q01 hr4 3;have r4:=Q00 hr4 4 _ rfl;have rf4:=Q01 hr4 4;have r5:=Q00 hr4 5 _ rfl;have rf5:=Q01 hr4 5;have r6:=Q00 hr4 6 _ rfl;have rf6:=Q01 hr4 6;have q0:=Q00 hk4 0 _ rfl;have qf0:=Q01 hk4 0;have q1:=Q00 hk4 1 _ rfl;have qf1:=Q01 hk4 1;have q2:=Q00 hk4 2 _ rfl;have qf2:=Q01 hk4 2;have q3:=Q00 hk4 3 _ rfl;have qf3:=Q01 hk4 3
 have q4:=Q00 hk4 4 _ rfl;have qf4:=Q01 hk4 4;clear hc4 hg4 hr4 hk4 HR3 HK3 HB3 HC3 HV3 HF hib sB sP hz1 hz2 ho hL8 hL2 hpl hpn HB4
 go_wp2
 refine bodyPost_ret (v:=.tuple #[Q1d kj (.slice o nj c) sj kp (.slice ob np cb) (.slice oR nr cR) (.slice ot nt ct),.int .i64 now,pkt a b f s (.slice po pn pc)]) (by simp [results,Tryz.results17,go_sem,r0,r1,r2,r3,r4,r5,r6,q0,q1,q2,q3,q4]) rfl ⟨_,_,_,_,_,_,_,_,_,_,_,_,_,_,_,m,now,a,b,f,s,po,pn,pc,L,rfl,HV5.out,HF2.out,HPN.out.symm,HPL.out,HI5.out,HB5.out⟩
end Go.Proofs.YtpneolgdghbinaaGreat
