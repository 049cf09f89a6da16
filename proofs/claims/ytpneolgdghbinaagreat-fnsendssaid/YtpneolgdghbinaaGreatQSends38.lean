/- Several texts in one: SDraw5T, SBent5T. -/
import Derived.Test.YtpneolgdghbinaaGreatQSends36
import Derived.Test.YtpneolgdghbinaaGreatQSends23
namespace Go.Proofs.YtpneolgdghbinaaGreat
open Go.ChangeShapes Go.WideShapes Go.ChangeAt Go.RowKit Go.Joins
set_option linter.unusedVariables false
set_option linter.unusedSimpArgs false
set_option maxRecDepth 100000
set_option maxHeartbeats 40000000
structure DInv (k B R:Nat) (w0 wr:World) (m:List Sl) (b off c:Nat):Prop where
 ok:Q0l m=true
 cur:isCur k wr
 box:wr.heap[B]? =some (.cells #[.slice (some ⟨b,off,none⟩) m.length c] 32 (0,0))
 res:wr.heap[R]? =some (.cells #[.slice none 0 0] 32 (0,0))
 lt:b < wr.heap.size
 ge:w0.heap.size≤b
 rd:(∀i,i < m.length→∀j,j < Q0h.k→wr.cell? ⟨b,off+i * Q0h.k+j,none⟩=(Q0h.cs (m.getD i Q0h.d))[j]?)
 gr:w0.grownBy wr (some k)
theorem DInv.draw {k B R:Nat} {w0 wr x:World} {m:List Sl} {b off c:Nat} (h:DInv k B R w0 wr m b off c) (hk:k < w0.heap.size) (hB:w0.heap.size≤B) (hR:w0.heap.size≤R) (hg:wr.drew.grownBy x (some k)) (hc:isCur k x):DInv k B R w0 x m b off c:=by
 have hg':wr.grownBy x (some k):=⟨hg.os,hg.tape,hg.output,hg.size,hg.block⟩
 have hb1:=(Array.getElem?_eq_some_iff.1 h.box).1
 have hr1:=(Array.getElem?_eq_some_iff.1 h.res).1
 have hbg:=h.ge
 refine ⟨h.ok,hc,(hg'.block B hb1 (by simp;omega)).trans h.box,(hg'.block R hr1 (by simp;omega)).trans h.res,Kbq h.lt hg'.size,h.ge,fun i hi j hj=> (Q3l hg' h.lt (by omega)).trans (h.rd i hi j hj),Q05 h.gr hg'⟩
theorem DInv.draw0 {k B R:Nat} {w0 wr x:World} {m:List Sl} {b off c:Nat} (h:DInv k B R w0 wr m b off c) (hk:k < w0.heap.size) (hB:w0.heap.size≤B) (hR:w0.heap.size≤R) (hg:wr.grownBy x (some k)) (hc:isCur k x):DInv k B R w0 x m b off c:=
 h.draw hk hB hR ⟨hg.os,hg.tape,hg.output,hg.size,hg.block⟩ hc
theorem DInv.cell {k B R:Nat} {w0 wr:World} {m:List Sl} {b off c:Nat} (h:DInv k B R w0 wr m b off c):wr.cell? ⟨B,0,none⟩=some (.slice (some ⟨b,off,none⟩) m.length c):=Q0j h.box 0 _ rfl
theorem DInv.curd {k B R:Nat} {w0 wr:World} {m:List Sl} {b off c:Nat} (h:DInv k B R w0 wr m b off c):isCur k wr.drew:=h.cur.below (Below.drew (Below.refl _ _))
theorem DInv.size {k B R:Nat} {w0 wr:World} {m:List Sl} {b off c:Nat} (h:DInv k B R w0 wr m b off c) (hk:k < w0.heap.size):k < wr.heap.size:=Kbq hk h.gr.size
theorem DInv.store {k B R:Nat} {w0 x y:World} {m m2:List Sl} {b off c b2 off2 c2:Nat} (h:DInv k B R w0 x m b off c) (hk:k < w0.heap.size) (hB:w0.heap.size≤B) (hBR:R < B) (hR:w0.heap.size≤R) (hm:Q0l m2=true) (hb:Below x.heap.size x y) (hlt:b2 < y.heap.size) (hrd:(∀i,i < m2.length→∀j,j < Q0h.k→y.cell? ⟨b2,off2+i * Q0h.k+j,none⟩=(Q0h.cs (m2.getD i Q0h.d))[j]?)) (hloc:b2=b∨x.heap.size≤b2):DInv k B R w0 (y.setCell ⟨B,0,none⟩ (.slice (some ⟨b2,off2,none⟩) m2.length c2)) m2 b2 off2 c2:=by
 have hb1:=(Array.getElem?_eq_some_iff.1 h.box).1
 have hr1:=(Array.getElem?_eq_some_iff.1 h.res).1
 have hbx:=(hb.block B hb1).trans h.box;have hrx:=(hb.block R hr1).trans h.res
 have hne:b2≠B:=Qc0 (by have:=(Q0i.1 hm).1;omega) hbx hrd
 have hsx:=h.gr.size;have hge:=h.ge
 have hb':Below (k+1) x (y.setCell ⟨B,0,none⟩ (.slice (some ⟨b2,off2,none⟩) m2.length c2)):=(hb.mono (by omega)).setCell (p:=⟨B,0,none⟩) (show k+1≤B by omega) _
 refine ⟨hm,h.cur.below hb',Q46 y B 0 _ _ _ hbx,(Below.heap_setCell y ⟨B,0,none⟩ _ R (by simp;omega)).trans hrx,by simpa using hlt,by omega,fun i hi j hj=> (World.cell?_setCell_far _ _ _ _ (fun e=> hne e.symm)).trans (hrd i hi j hj), ?_⟩
 have hw:Below w0.heap.size x (y.setCell ⟨B,0,none⟩ (.slice (some ⟨b2,off2,none⟩) m2.length c2)):=(hb.mono hsx).setCell (p:=⟨B,0,none⟩) hB _
 exact ⟨hw.os.trans h.gr.os,hw.tape.trans h.gr.tape,hw.output.trans h.gr.output,Kdq h.gr.size hw.size,fun i hi hn=> (hw.block i hi).trans (h.gr.block i hi hn)⟩
theorem Q4z {a p:Int} (ha:1≤a∧a≤3) (hp:80≤p∧p≤82):Q0f a p=true:=Q0Y.2 (by omega)
theorem QaR {l:List Sl} {a p:Int} (h:Q0l l=true):Q0l (Q3D l a p)=true:=by
 have hn:=(Q0i.1 h).1
 rcases Q23 l (by omega) a p with e|⟨i,hi,⟨e,_⟩|⟨e,_⟩⟩
 ·rw [Q6u (by rw [e])];exact h
 ·rw [Q6u (by rw [e])];exact h
 ·rw [Q9h e];exact Qc1 h hi
theorem DInv.boxlt {k B R:Nat} {w0 wr:World} {m:List Sl} {b off c:Nat} (h:DInv k B R w0 wr m b off c):B < wr.heap.size:=(Array.getElem?_eq_some_iff.1 h.box).1
theorem DInv.frz {k B R:Nat} {w0 wr:World} {m:List Sl} {b off c:Nat} (h:DInv k B R w0 wr m b off c):wr.frozen? ⟨B,0,none⟩=false:=Q1X h.box 0
theorem DInv.dropped {k B:Nat} {w x y:World} {m:List Sl} {a p:Int} {b off c b2 off2 c2:Nat} (h:DInv k B w.heap.size w x m b off c) (hk:k < w.heap.size) (hB:w.heap.size < B) (hlt:b2 < y.heap.size) (hrd:(∀i,i < (Q3D m a p).length→∀j,j < Q0h.k→y.cell? ⟨b2,off2+i * Q0h.k+j,none⟩=(Q0h.cs ((Q3D m a p).getD i Q0h.d))[j]?)) (hb:Below x.heap.size x y) (hloc:b2=b∨x.heap.size≤b2):DInv k B w.heap.size w (y.setCell ⟨B,0,none⟩ (.slice (some ⟨b2,off2,none⟩) m.length c2)) (Q3D m a p) b2 off2 c2:=by
 have h2:=h.store (c2:=c2) hk (Nat.le_of_lt hB) hB (Kaq _) (QaR h.ok) hb hlt hrd hloc
 rwa [Q95] at h2
theorem DInv.putted {k B:Nat} {w x y:World} {m:List Sl} {a p v t:Int} {b off c b2 off2 c2:Nat} (h:DInv k B w.heap.size w x m b off c) (hk:k < w.heap.size) (hB:w.heap.size < B) (hf:Q0f a p=true) (hv0:0≤v) (hv:v < 6) (ht0:0≤t) (ht:t < 40) (hlt:b2 < y.heap.size) (hrd:(∀i,i < (Q6j m a p v t).length→∀j,j < Q0h.k→y.cell? ⟨b2,off2+i * Q0h.k+j,none⟩=(Q0h.cs ((Q6j m a p v t).getD i Q0h.d))[j]?)) (hb:Below x.heap.size x y) (hloc:b2=b∨x.heap.size≤b2):DInv k B w.heap.size w (y.setCell ⟨B,0,none⟩ (.slice (some ⟨b2,off2,none⟩) m.length c2)) (Q6j m a p v t) b2 off2 c2:=by
 have h2:=h.store (c2:=c2) hk (Nat.le_of_lt hB) hB (Kaq _) (Qaj h.ok hf ⟨hv0,by omega⟩ ⟨ht0,by omega⟩) hb hlt hrd hloc
 rwa [Qah] at h2
theorem DInv.ended {k B:Nat} {w x y:World} {m:List Sl} {b off c:Nat} (h:DInv k B w.heap.size w x m b off c) (hk:k < w.heap.size) (hb:Below x.heap.size x y) (v:Value):isCur k (y.setCell ⟨w.heap.size,0,none⟩ v)∧w.grownBy (y.setCell ⟨w.heap.size,0,none⟩ v) (some k):=by
 have hs:=h.gr.size;have h1:Below w.heap.size x (y.setCell ⟨w.heap.size,0,none⟩ v):=(hb.mono hs).setCell (p:=⟨w.heap.size,0,none⟩) (Kaq _) v
 refine ⟨h.cur.below (h1.mono hk),h1.os.trans h.gr.os,h1.tape.trans h.gr.tape,h1.output.trans h.gr.output,Kdq hs h1.size,fun i hi hn=> (h1.block i hi).trans (h.gr.block i hi hn)⟩
theorem Qg6 {n:Int} (h1:1≤n) (h2:n≤16):Q0l (Q7z n)=true:=by
 have e:Q7z n=List.replicate n.toNat sl0:=by unfold Q7z;rw [if_pos ⟨h1,h2⟩]
 rw [e]
 refine Q0i.2 ⟨by rw [List.length_replicate];omega,by rw [List.length_replicate];omega,fun i hi=> ?_⟩
 rw [List.length_replicate] at hi
 have e2:(List.replicate n.toNat sl0).getD i sl0=sl0:=by simp [List.getD_eq_getElem?_getD,List.getElem?_replicate,hi]
 exact Q5E (by rw [e2] <;> rfl) (by rw [e2] <;> rfl)
theorem QbJ (k:Nat) (w:World) (hc:isCur k w) (hk:k < w.heap.size):
  Calls Tryz.prog 136 #[.pointer (some ⟨k,0,none⟩)] w fun e w'=> ∃v' m,e=.returned v'∧Q0l m=true∧InTb w.heap.size w'.heap.size w' v' m∧isCur k w'∧w.grownBy w' (some k):=by
 obtain ⟨W0,hW0⟩:∃W,w.alloc (.cells #[.slice none 0 0] 32)=W:=⟨_,rfl⟩
 have hb0:Below w.heap.size w W0:=by rw [←hW0];exact (Below.refl _ _).alloc (Kaq _) _
 have hg0:w.grownBy W0 (some k):=by rw [←hW0];exact World.grownBy_alloc w _ _
 have HR0:Hid (W0.heap[w.heap.size]? =some (.cells #[.slice none 0 0] 32 (0,0))):=by rw [←hW0];exact World.alloc_heap_new w _
 have hs0:w.heap.size < W0.heap.size:=by rw [←hW0];simp
 have HC0:=Q02 (hc.below (hb0.mono hk));have HG0:=Q02 hg0;clear hb0 hg0 hc
 go_enter Tryz.func136,Tryz.ntmps136
 go_wp2_with fail
 refine (Q0m k 8 W0 HC0.out (by decide) (by decide)).mono ?_
 rintro e v1 ⟨x,rfl,x0,x8,hc1,hg1⟩
 have HC1:=Q02 hc1;have HG1:=Q02 (Q05 HG0.out hg1)
 have HR1:Hid (v1.heap[w.heap.size]? =some (.cells #[.slice none 0 0] 32 (0,0))):=(hg1.block _ hs0 (by simp;omega)).trans HR0.out
 have hs1:w.heap.size < v1.heap.size:=Kbq hs0 hg1.size;clear hc1 hg1 HR0 HC0 HG0 hW0 hs0
 go_wp2_with fail
 refine (Q6e (1+x) v1).mono ?_
 rintro e v2 ⟨vt,rfl,⟨vl,rfl,hrow,_⟩,hb2⟩
 have HK:=Q02 (Qg6 (n:=1+x) (by omega) (by omega))
 generalize Qbn (1+x)=fb;obtain ⟨m,hm⟩:∃m,Q7z (1+x)=m:=⟨_,rfl⟩
 rw [hm] at hrow HK
 clear hm
 obtain ⟨g,cap,rfl⟩:∃g cap,vl=.slice (some ⟨g,0,none⟩) m.length cap:=by
  rcases hrow.2 with ⟨h1,h2⟩|⟨g,cap,cur,h1,_⟩
  ·have:=(Q0i.1 HK.out).1;omega
  ·exact ⟨g,cap,h1⟩
 have hgl:=hrow.lt g rfl;obtain ⟨W3,hW3⟩:∃W,v2.alloc (.cells #[.slice (some ⟨g,0,none⟩) m.length cap] 32)=W:=⟨_,rfl⟩;have hs2:=hb2.size
 have hb3:Below v2.heap.size v2 W3:=by rw [←hW3];exact (Below.refl _ _).alloc (Kaq _) _
 have hg3:v1.grownBy W3 (some k):=by
  have h:Below v1.heap.size v1 W3:=hb2.trans (hb3.mono hs2)
  exact ⟨h.os,h.tape,h.output,h.size,fun i hi _=> h.block i hi⟩
 have HI3:Hid (DInv k v2.heap.size w.heap.size w W3 m g 0 cap):=by
  have h13:Below v1.heap.size v1 W3:=hb2.trans (hb3.mono hs2)
  refine ⟨HK.out,HC1.out.below (h13.mono (by omega)),by rw [←hW3];exact World.alloc_heap_new v2 _,(h13.block _ hs1).trans HR1.out,Kbq hgl.2 hb3.size,by omega,fun i hi j hj=> (hb3.cell (p:=⟨g,0+i * Q0h.k+j,none⟩) hgl.2).trans (Q1M hrow rfl i hi j hj),Q05 HG1.out hg3⟩
 have hBw:w.heap.size < v2.heap.size:=by omega
 generalize hBq:v2.heap.size=B at *;clear hb2 hb3 hg3 hrow hgl HR1 HC1 HG1 HK hs2 hs1
 go_wp2_with fail
 refine (Q0m k 10 W3 HI3.out.cur (by decide) (by decide)).mono ?_
 rintro e v4 ⟨n2,rfl,n0,n10,hc4,hg4⟩
 have HI4:=Q02 (HI3.out.draw0 hk (Nat.le_of_lt hBw) (Kaq _) hg4 hc4);clear hc4 hg4 HI3 hW3 hBq
 go_wp2
 go_loopw [6] (fun iv wr=> ∃(i:Nat) (m:List Sl) (b off c:Nat),(i:Int)≤n2∧iv=.int .i64 i∧Hid (DInv k B w.heap.size w wr m b off c))
  (fun iv _=> n2.toNat - (intOf iv).toNat)
 case atStart=> exact ⟨0,m,g,0,cap,n0,rfl,HI4⟩
 case round=>
  clear HI4;obtain ⟨i,m,b,off,c,hi,rfl,HI⟩:=hrel;have h1:=(Q0i.1 HI.out.ok).1;have h16:=(Q0i.1 HI.out.ok).2.1
  by_cases hlt:(i:Int) < n2
  ·go_wp2_with fail
   refine (Q1g k 4 wr HI.out.cur (by decide) (by decide)).mono ?_
   rintro e v5 ⟨y,rfl,hc5,hg5⟩
   have HI5:=Q02 (HI.out.draw0 hk (Nat.le_of_lt hBw) (Kaq _) hg5 hc5);have ct:=HI5.out.cell;have hk5:=HI5.out.size hk;clear hc5 hg5 HI
   cases y with
   |true=>
    go_wp2
    go_region_with (first|(go_at_call 130;have hc_:=Q1L k v5.drew HI5.out.curd hk5;with_reducible refine hc_.mono ?_;clear hc_;rintro e x0 ⟨fa,fp,rfl,ha,hp,hcx,hgx⟩;have I0:=Q02 (HI5.out.draw hk (Nat.le_of_lt hBw) (Kaq _) hgx hcx);have k0:=I0.out.cell;have hF:=Q02 (Q4z ha hp);clear hcx hgx)|(go_at_call 168;have hc_:=Q6A b off c m fa fp x0 (by omega) h16 hF.out (Q4b I0.out.ok) I0.out.lt I0.out.rd;with_reducible refine hc_.mono ?_;clear hc_;rintro e x1 ⟨b2,off2,c2,rfl,hb2,hr2,hB2,hl2⟩;have k1:=(hB2.cell (p:=⟨B,0,none⟩) I0.out.boxlt).trans k0;have f1:=(hB2.frozen (p:=⟨B,0,none⟩) I0.out.boxlt).trans I0.out.frz;have HS:=Q02 (I0.out.dropped (c2:=c2) hk hBw hb2 hr2 hB2 hl2);clear hb2 hr2 hB2 hl2))
    all_goals (
     go_wp2
     go_roundw
     case rel=> exact ⟨i+1,_,b2,off2,c2,by omega,by go_num,HS.out⟩
     case measure=> simp [intOf];omega)
   |false=>
    go_wp2
    go_region_with (first|(go_at_call 130;have hc_:=Q1L k v5.drew HI5.out.curd hk5;with_reducible refine hc_.mono ?_;clear hc_;rintro e x0 ⟨fa,fp,rfl,ha,hp,hcx,hgx⟩;have I0:=Q02 (HI5.out.draw hk (Nat.le_of_lt hBw) (Kaq _) hgx hcx);have k0:=I0.out.cell;have hF:=Q02 (Q4z ha hp);clear hcx hgx)|(go_at_call 80;have hc_:=Q0m k 6 x0 I0.out.cur (by decide) (by decide);with_reducible refine hc_.mono ?_;clear hc_;rintro e x1 ⟨av,rfl,av0,av6,hcx,hgx⟩;have I1:=Q02 (I0.out.draw0 hk (Nat.le_of_lt hBw) (Kaq _) hgx hcx);have k1:=I1.out.cell;clear hcx hgx)|(go_at_call 80;have hc_:=Q0m k 40 x1 I1.out.cur (by decide) (by decide);with_reducible refine hc_.mono ?_;clear hc_;rintro e x2 ⟨tv,rfl,tv0,tv40,hcx,hgx⟩;have I2:=Q02 (I1.out.draw0 hk (Nat.le_of_lt hBw) (Kaq _) hgx hcx);have k2:=I2.out.cell;clear hcx hgx)|(go_at_call 166;have hc_:=Q5v b off c m fa fp av tv x2 (by omega) (by omega) hF.out I2.out.lt I2.out.rd;with_reducible refine hc_.mono ?_;clear hc_;rintro e x3 ⟨b2,off2,c2,rfl,hb2,hr2,hB2,hl2⟩;have k3:=(hB2.cell (p:=⟨B,0,none⟩) I2.out.boxlt).trans k2;have f3:=(hB2.frozen (p:=⟨B,0,none⟩) I2.out.boxlt).trans I2.out.frz;have HS:=Q02 (I2.out.putted (c2:=c2) hk hBw hF.out av0 av6 tv0 tv40 hb2 hr2 hB2 hl2);clear hb2 hr2 hB2 hl2))
    all_goals (
     go_wp2
     go_roundw
     case rel=> exact ⟨i+1,_,b2,off2,c2,by omega,by go_num,HS.out⟩
     case measure=> simp [intOf];omega)
  ·have e:(i:Int)=n2:=by omega
   have ct:=HI.out.cell;have hi2:decide ((i:Int) < n2)=false:=decide_eq_false hlt
   have hown:=Q4W b off c m wr HI.out.lt HI.out.rd (by omega)
   have hrl:w.heap.size < wr.heap.size:=(Array.getElem?_eq_some_iff.1 HI.out.res).1
   clear e
   go_wp2_with fail
   refine hown.mono ?_
   rintro e y ⟨o2,c2,rfl,ho,hby⟩
   have HE:=Q02 (HI.out.ended hk hby (.slice o2 m.length c2));have cr0:=Q0j ((hby.block _ hrl).trans HI.out.res) 0 _ rfl;have fr0:=Q1X ((hby.block _ hrl).trans HI.out.res) 0;have HO:=Q02 ho;have hok:=Q02 HI.out.ok;have hsz:=Q02 HI.out.gr.size;clear hown ho hby ct HI
   go_wp2
   refine bodyPost_ret (v:=tab (.slice o2 m.length c2)) (by simp [results,Tryz.results136,go_sem,cr0]) rfl ⟨_,m,rfl,hok.out,⟨_,rfl, ?_⟩,HE.out.1,HE.out.2⟩
   have h:=ownsRow_setCell_below HO.out (a:=⟨w.heap.size,0,none⟩) hrl (.slice o2 m.length c2)
   exact InRow.of (Q04 h hsz.out)
theorem Q9o {α:Type} (L:Lay α) {a:α} {j:Nat} {u:Value} (hj:j < L.k):∀(l:List α) (i:Nat),i < l.length→L.cs a=(L.cs (l.getD i L.d)).set j u→(l.flatMap L.cs).set (i * L.k+j) u=(l.set i a).flatMap L.cs
 |[],i,h,_=> absurd h (Nat.not_lt_zero _)
 |x::l,0,_,e=> by
  have hx:(L.cs x).length=L.k:=L.len x
  rw [List.set_cons_zero,List.flatMap_cons,List.flatMap_cons,Nat.zero_mul,Nat.zero_add,List.set_append_left _ _ (by omega),e];rfl
 |x::l,i+1,h,e=> by
  have hx:(L.cs x).length=L.k:=L.len x
  have h2:=Q9o L hj l i (by simpa using h) e
  rw [List.set_cons_succ,List.flatMap_cons,List.flatMap_cons,List.set_append_right _ _ (by rw [hx,Nat.succ_mul];omega),←h2,hx,show (i+1) * L.k+j - L.k=i * L.k+j by rw [Nat.succ_mul];omega]
structure BInv (k B R:Nat) (w0 wr:World) (m:List Sl) (g c:Nat):Prop where
 ln:1≤m.length∧m.length≤16
 cur:isCur k wr
 box:wr.heap[B]? =some (.cells #[.slice (some ⟨g,0,none⟩) m.length c] 32 (0,0))
 res:wr.heap[R]? =some (.cells #[.slice none 0 0] 32 (0,0))
 own:wr.ownsRow w0.heap.size 101 5 (.slice (some ⟨g,0,none⟩) m.length c) m.length (m.flatMap Q0h.cs)
 gr:w0.grownBy wr (some k)
theorem BInv.draw {k B R:Nat} {w0 wr x:World} {m:List Sl} {g c:Nat} (h:BInv k B R w0 wr m g c) (hk:k < w0.heap.size) (hB:w0.heap.size≤B) (hR:w0.heap.size≤R) (hg:wr.grownBy x (some k)) (hc:isCur k x):BInv k B R w0 x m g c:=by
 have hb1:=(Array.getElem?_eq_some_iff.1 h.box).1
 have hr1:=(Array.getElem?_eq_some_iff.1 h.res).1
 have hgl:=h.own.lt g rfl
 exact ⟨h.ln,hc,(hg.block B hb1 (by simp;omega)).trans h.box,(hg.block R hr1 (by simp;omega)).trans h.res,World.ownsRow.kept h.own hg (.inr (by simp [Value.ownBlock];omega)),Q05 h.gr hg⟩
theorem BInv.drawd {k B R:Nat} {w0 wr x:World} {m:List Sl} {g c:Nat} (h:BInv k B R w0 wr m g c) (hk:k < w0.heap.size) (hB:w0.heap.size≤B) (hR:w0.heap.size≤R) (hg:wr.drew.grownBy x (some k)) (hc:isCur k x):BInv k B R w0 x m g c:=
 h.draw hk hB hR ⟨hg.os,hg.tape,hg.output,hg.size,hg.block⟩ hc
theorem BInv.grown {k B R:Nat} {w0 wr x:World} {m:List Sl} {g c:Nat} (h:BInv k B R w0 wr m g c) (hk:k < w0.heap.size) (hB:w0.heap.size≤B) (hR:w0.heap.size≤R) (hb:Below wr.heap.size wr x):BInv k B R w0 x m g c:=
 h.draw hk hB hR ⟨hb.os,hb.tape,hb.output,hb.size,fun i hi _=> hb.block i hi⟩ (h.cur.below (hb.mono (Kbq hk h.gr.size)))
theorem BInv.apart {k B R:Nat} {w0 wr:World} {m:List Sl} {g c:Nat} (h:BInv k B R w0 wr m g c):g≠B∧g≠R:=by
 rcases h.own.2 with ⟨h1,_⟩|⟨g',cap,cur,h1,_,hc,_⟩
 ·cases h1
 ·injection h1 with h1 _ _
  injection h1 with h1
  injection h1 with h1 _ _
  subst h1
  constructor
  ·intro e
   rw [e,h.box] at hc
   injection hc with hc
   injection hc with _ hc _
   exact absurd hc (by decide)
  ·intro e
   rw [e,h.res] at hc
   injection hc with hc
   injection hc with _ hc _
   exact absurd hc (by decide)
theorem BInv.store {k B R:Nat} {w0 wr:World} {m:List Sl} {g c i j:Nat} {u:Value} (h:BInv k B R w0 wr m g c) (hk:k < w0.heap.size) (hB:w0.heap.size≤B) (hR:w0.heap.size≤R) (hj:j < 5) (hi:i < m.length) (s:Sl) (hs:Q0h.cs s=(Q0h.cs (m.getD i Q0h.d)).set j u):BInv k B R w0 (wr.setCell ⟨g,i * 5+j,none⟩ u) (m.set i s) g c:=by
 have hgl:=h.own.lt g rfl;obtain ⟨ha,hb⟩:=h.apart;have hst:=Q4i wr g (i * 5+j) u;have hbl:Below w0.heap.size wr (wr.setCell ⟨g,i * 5+j,none⟩ u):=hst.below hgl.1 h.gr.size;have hg1:=QbU (j:=i * 5+j) (u:=u) h.own (World.grownBy.refl wr (some g))
 refine ⟨by rw [List.length_set];exact h.ln,h.cur.below (hbl.mono hk), ?_, ?_, ?_, ?_⟩
 ·rw [List.length_set];exact (Below.heap_setCell wr ⟨g,i * 5+j,none⟩ u B (fun e=> ha e.symm)).trans h.box
 ·exact (Below.heap_setCell wr ⟨g,i * 5+j,none⟩ u R (fun e=> hb e.symm)).trans h.res
 ·rw [List.length_set,←Q9o Q0h hj m i hi hs];exact hg1.1
 ·exact ⟨hbl.os.trans h.gr.os,hbl.tape.trans h.gr.tape,hbl.output.trans h.gr.output,Kdq h.gr.size hbl.size,fun q hq hn=> (hbl.block q hq).trans (h.gr.block q hq hn)⟩
theorem BInv.boxc {k B R:Nat} {w0 wr:World} {m:List Sl} {g c:Nat} (h:BInv k B R w0 wr m g c):wr.cell? ⟨B,0,none⟩=some (.slice (some ⟨g,0,none⟩) m.length c):=Q0j h.box 0 _ rfl
theorem BInv.resc {k B R:Nat} {w0 wr:World} {m:List Sl} {g c:Nat} (h:BInv k B R w0 wr m g c):wr.cell? ⟨R,0,none⟩=some (.slice none 0 0)∧wr.frozen? ⟨R,0,none⟩=false:=⟨Q0j h.res 0 _ rfl,Q1X h.res 0⟩
theorem BInv.row {k B R:Nat} {w0 wr:World} {m:List Sl} {g c:Nat} (h:BInv k B R w0 wr m g c) {i j:Nat} (hi:i < m.length) (hj:j < 5):(∃u,wr.cell? ⟨g,i * 5+j,none⟩=some u)∧wr.frozen? ⟨g,i * 5+j,none⟩=false:=by
 have hl:(m.flatMap Q0h.cs).length=m.length * 5:=by rw [Q0s];rfl
 have hij:i * 5+j < m.length * 5:=by omega
 exact ⟨⟨_,(h.own.cellAt (i * 5+j) hij).trans (List.getElem?_eq_getElem (by omega))⟩,h.own.frozenAt (i * 5+j)⟩
theorem BInv.done {k B:Nat} {w wr:World} {m:List Sl} {g c:Nat} (h:BInv k B w.heap.size w wr m g c) (hk:k < w.heap.size):InTb w.heap.size (wr.setCell ⟨w.heap.size,0,none⟩ (.slice (some ⟨g,0,none⟩) m.length c)).heap.size (wr.setCell ⟨w.heap.size,0,none⟩ (.slice (some ⟨g,0,none⟩) m.length c)) (tab (.slice (some ⟨g,0,none⟩) m.length c)) m∧isCur k (wr.setCell ⟨w.heap.size,0,none⟩ (.slice (some ⟨g,0,none⟩) m.length c))∧w.grownBy (wr.setCell ⟨w.heap.size,0,none⟩ (.slice (some ⟨g,0,none⟩) m.length c)) (some k):=by
 obtain ⟨_,hb⟩:=h.apart;have hbl:Below w.heap.size wr (wr.setCell ⟨w.heap.size,0,none⟩ (.slice (some ⟨g,0,none⟩) m.length c)):=((Below.refl _ _).mono h.gr.size).setCell (p:=⟨w.heap.size,0,none⟩) (Kaq _) _
 refine ⟨⟨_,rfl,InRow.of ?_⟩,h.cur.below (hbl.mono hk),hbl.os.trans h.gr.os,hbl.tape.trans h.gr.tape,hbl.output.trans h.gr.output,Kdq h.gr.size hbl.size,fun q hq hn=> (hbl.block q hq).trans (h.gr.block q hq hn)⟩
 rcases h.own.2 with ⟨h1,_⟩|⟨g',cap,cur,h1,h2,hc,h3⟩
 ·cases h1
 ·refine ⟨h.own.1,.inr ⟨g',cap,cur,h1,h2, ?_,h3⟩⟩
  injection h1 with h1 _ _
  injection h1 with h1
  injection h1 with h1 _ _
  subst h1
  exact (Below.heap_setCell wr ⟨w.heap.size,0,none⟩ _ g hb).trans hc
theorem BInv.doned {k B:Nat} {w wr:World} {m:List Sl} {g c:Nat} (h:BInv k B w.heap.size w wr m g c) (hk:k < w.heap.size):InTb w.heap.size (wr.setCell ⟨w.heap.size,0,none⟩ (.slice (some ⟨g,0,none⟩) m.length c)).drew.heap.size (wr.setCell ⟨w.heap.size,0,none⟩ (.slice (some ⟨g,0,none⟩) m.length c)).drew (tab (.slice (some ⟨g,0,none⟩) m.length c)) m∧isCur k (wr.setCell ⟨w.heap.size,0,none⟩ (.slice (some ⟨g,0,none⟩) m.length c)).drew∧w.grownBy (wr.setCell ⟨w.heap.size,0,none⟩ (.slice (some ⟨g,0,none⟩) m.length c)).drew (some k):=by
 obtain ⟨h1,h2,h3⟩:=h.done hk
 exact ⟨h1.step (Stp.of (lo:=0) (hi:=0) (Below.drew (Below.refl _ _))) (.inl (Kcq _)),h2.below (Below.drew (Below.refl _ _)),h3.os,h3.tape,h3.output,h3.size,h3.block⟩
theorem Qhw (k g:Nat) (a b c:Int) (w:World) (hc:isCur k w) (hg:g < w.heap.size) (hne:g≠k) (p0:w.cell? ⟨g,0,none⟩=some (.int .i64 a)) (p1:w.cell? ⟨g,1,none⟩=some (.int .i64 b)) (p2:w.cell? ⟨g,2,none⟩=some (.int .i64 c)):
  Calls Tryz.prog 55 #[.pointer (some ⟨k,0,none⟩),.slice (some ⟨g,0,none⟩) 3 3] w fun e w'=> ∃x:Int,e=.returned (.int .i64 x)∧isCur k w'∧w.grownBy w' (some k):=by
 refine (Q0H k g [a,b,c] w hc hg hne (by simp) (by simp) ?_).mono ?_
 ·intro q hq
  have hq3:q < 3:=hq
  match q,hq3 with
  |0,_=> exact p0
  |1,_=> exact p1
  |2,_=> exact p2
 ·rintro e w' ⟨q,_,rfl,h1,h2⟩
  exact ⟨_,rfl,h1,h2⟩
theorem Qdr {k B R:Nat} {w0 wr:World} {m:List Sl} {g c i:Nat} {su:Bool} {sa sp sv st:Int} (hx:m.getD i sl0=⟨su,sa,sp,sv,st⟩) (h:BInv k B R w0 wr m g c) (hk:k < w0.heap.size) (hB:w0.heap.size≤B) (him:i < m.length) (fa fp:Int) (hR:w0.heap.size≤R:=by exact Kaq _):BInv k B R w0 ((wr.setCell ⟨g,i * 5+1,none⟩ (.int .i64 fa)).setCell ⟨g,i * 5+2,none⟩ (.int .i64 fp)) (m.set i ⟨su,fa,fp,sv,st⟩) g c:=by
 have h1:=h.store hk hB hR (show 1 < 5 by decide) him ⟨su,fa,sp,sv,st⟩ (u:=.int .i64 fa) (by rw [show m.getD i Q0h.d=⟨su,sa,sp,sv,st⟩ from hx];rfl)
 have h2:=h1.store hk hB hR (show 2 < 5 by decide) (i:=i) (by rw [List.length_set];exact him) ⟨su,fa,fp,sv,st⟩ (u:=.int .i64 fp) (by rw [show (m.set i ⟨su,fa,sp,sv,st⟩).getD i Q0h.d=⟨su,fa,sp,sv,st⟩ from Q19 m i _ him];rfl)
 rwa [List.set_set] at h2
theorem Qhx {k B R:Nat} {w0 wr:World} {m:List Sl} {g c i:Nat} {su:Bool} {sa sp sv st:Int} (hx:m.getD i sl0=⟨su,sa,sp,sv,st⟩) (h:BInv k B R w0 wr m g c) (hk:k < w0.heap.size) (hB:w0.heap.size≤B) (him:i < m.length) (pv:Int) (hR:w0.heap.size≤R:=by exact Kaq _):BInv k B R w0 (wr.setCell ⟨g,i * 5+3,none⟩ (.int .i64 pv)) (m.set i ⟨su,sa,sp,pv,st⟩) g c:=
 h.store hk hB hR (show 3 < 5 by decide) him ⟨su,sa,sp,pv,st⟩ (u:=.int .i64 pv) (by rw [show m.getD i Q0h.d=⟨su,sa,sp,sv,st⟩ from hx];rfl)
theorem Qhs {k B R:Nat} {w0 wr:World} {m:List Sl} {g c i:Nat} {su:Bool} {sa sp sv st:Int} (hx:m.getD i sl0=⟨su,sa,sp,sv,st⟩) (h:BInv k B R w0 wr m g c) (hk:k < w0.heap.size) (hB:w0.heap.size≤B) (him:i < m.length) (pv:Int) (hR:w0.heap.size≤R:=by exact Kaq _):BInv k B R w0 (wr.setCell ⟨g,i * 5+4,none⟩ (.int .i64 pv)) (m.set i ⟨su,sa,sp,sv,pv⟩) g c:=
 h.store hk hB hR (show 4 < 5 by decide) him ⟨su,sa,sp,sv,pv⟩ (u:=.int .i64 pv) (by rw [show m.getD i Q0h.d=⟨su,sa,sp,sv,st⟩ from hx];rfl)
theorem Qcy (k:Nat) (w:World) (hc:isCur k w) (hk:k < w.heap.size):
  Calls Tryz.prog 83 #[.pointer (some ⟨k,0,none⟩)] w fun e w'=> ∃v' m,e=.returned v'∧(1≤m.length∧m.length≤16)∧InTb w.heap.size w'.heap.size w' v' m∧isCur k w'∧w.grownBy w' (some k):=by
 obtain ⟨W0,hW0⟩:∃W,w.alloc (.cells #[.slice none 0 0] 32)=W:=⟨_,rfl⟩
 have hb0:Below w.heap.size w W0:=by rw [←hW0];exact (Below.refl _ _).alloc (Kaq _) _
 have hg0:w.grownBy W0 (some k):=by rw [←hW0];exact World.grownBy_alloc w _ _
 have HR0:Hid (W0.heap[w.heap.size]? =some (.cells #[.slice none 0 0] 32 (0,0))):=by rw [←hW0];exact World.alloc_heap_new w _
 have hs0:w.heap.size < W0.heap.size:=by rw [←hW0];simp
 have HC0:=Q02 (hc.below (hb0.mono hk));have HG0:=Q02 hg0;clear hb0 hg0 hc
 go_enter Tryz.func83,Tryz.ntmps83
 go_wp2_with fail
 refine (QbJ k W0 HC0.out (by omega)).mono ?_
 rintro e v1 ⟨vt,m,rfl,hok,⟨vl,rfl,hrow,_⟩,hc1,hg1⟩
 have hln:=(Q0i.1 hok);have hln1:=hln.1;have hln2:=hln.2.1
 obtain ⟨g,cap,rfl⟩:∃g cap,vl=.slice (some ⟨g,0,none⟩) m.length cap:=by
  rcases hrow.2 with ⟨h1,h2⟩|⟨g,cap,cur,h1,_⟩
  ·omega
  ·exact ⟨g,cap,h1⟩
 obtain ⟨W2,hW2⟩:∃W,v1.alloc (.cells #[.slice (some ⟨g,0,none⟩) m.length cap] 32)=W:=⟨_,rfl⟩
 have hb2:Below v1.heap.size v1 W2:=by rw [←hW2];exact (Below.refl _ _).alloc (Kaq _) _
 have hs1:=hg1.size
 have HI2:Hid (BInv k v1.heap.size w.heap.size w W2 m g cap):=by
  refine ⟨⟨hln1,hln2⟩,hc1.below (hb2.mono (by omega)),by rw [←hW2];exact World.alloc_heap_new v1 _,(hb2.block _ (by omega)).trans ((hg1.block _ hs0 (by simp;omega)).trans HR0.out),Q03 (Q04 hrow (Nat.le_of_lt hs0)) hb2,Q05 (Q05 HG0.out hg1) ⟨hb2.os,hb2.tape,hb2.output,hb2.size,fun i hi _=> hb2.block i hi⟩⟩
 have hBw:w.heap.size≤v1.heap.size:=by omega
 clear hln hok hrow hc1 hg1 hb2 HR0 HC0 HG0 hW0 hs0 hs1
 go_wp2_with fail
 refine (Q1g k 7 W2 HI2.out.cur (by decide) (by decide)).mono ?_
 rintro e v3 ⟨y,rfl,hc3,hg3⟩
 have HI3:=Q02 (HI2.out.draw hk hBw (Kaq _) hg3 hc3);clear hc3 hg3 HI2 hW2;generalize v1.heap.size=B at *;have ct:=HI3.out.boxc
 cases y with
 |false=>
  have cr:=HI3.out.resc.1;have fr:=HI3.out.resc.2;have HD:=Q02 (HI3.out.done hk)
  go_wp2
  refine bodyPost_ret (v:=tab (.slice (some ⟨g,0,none⟩) m.length cap)) (by simp [results,Tryz.results83,go_sem,cr]) rfl ⟨_,m,rfl,⟨hln1,hln2⟩,HD.out.1,HD.out.2.1,HD.out.2.2⟩
 |true=>
  go_wp2_with fail
  refine (Q0m k (m.length:Int) v3 HI3.out.cur (by omega) (by omega)).mono ?_
  rintro e v4 ⟨iz,rfl,iz0,iz1,hc4,hg4⟩
  obtain ⟨i,rfl⟩:∃i:Nat,iz=i:=⟨iz.toNat,by omega⟩
  have him:i < m.length:=by omega
  have HI4:=Q02 (HI3.out.draw hk hBw (Kaq _) hg4 hc4);clear hc4 hg4 HI3 ct
  go_wp2_with fail
  refine (Q0m k 4 v4 HI4.out.cur (by decide) (by decide)).mono ?_
  rintro e v5 ⟨q,rfl,q0,q4,hc5,hg5⟩
  have HI5:=Q02 (HI4.out.draw hk hBw (Kaq _) hg5 hc5);clear hc5 hg5 HI4;have ct:=HI5.out.boxc;have hk5:k < v5.heap.size:=Kbq hk HI5.out.gr.size;obtain ⟨s,hxy⟩:∃s,m.getD i sl0=s:=⟨_,rfl⟩;have hrk:=Qd0 HI5.out.own rfl i him
  rw [hxy] at hrk
  have e0:=hrk.1
  have f0:v5.frozen? ⟨g,i * 5,none⟩=false:=(HI5.out.row him (show 0 < 5 by decide)).2
  have HX:=Q02 hxy;clear hrk hxy;obtain ⟨su,sa,sp,sv,st⟩:=s
  simp only at e0
  have hq:q=0∨q=1∨q=2∨q=3:=by omega
  rcases hq with rfl|rfl|rfl|rfl
  ·obtain ⟨W6,hW6⟩:∃W,v5.setCell ⟨g,i * 5,none⟩ (.bool (!su))=W:=⟨_,rfl⟩
   have HI6:Hid (BInv k B w.heap.size w W6 (m.set i ⟨!su,sa,sp,sv,st⟩) g cap):=by
    rw [←hW6]
    exact (HI5.out.store hk hBw (Kaq _) (show 0 < 5 by decide) him ⟨!su,sa,sp,sv,st⟩ (u:=.bool (!su)) (by rw [show m.getD i Q0h.d=⟨su,sa,sp,sv,st⟩ from HX.out];rfl))
   have HLn:=Q02 (show (m.set i ⟨!su,sa,sp,sv,st⟩).length=m.length from List.length_set);have ct6:=HI6.out.boxc
   rw [HLn.out] at ct6
   have cr6:=HI6.out.resc.1;have fr6:=HI6.out.resc.2;have HD:=Q02 (HI6.out.doned hk)
   rw [HLn.out] at HD
   have HL:=Q02 HI6.out.ln;clear HI6
   go_wp2
   go_region
   all_goals (
    go_wp2
    refine bodyPost_ret (v:=tab (.slice (some ⟨g,0,none⟩) m.length cap)) (by simp [results,Tryz.results83,go_sem,cr6]) rfl ⟨_,_,rfl,HL.out,HD.out.1,HD.out.2.1,HD.out.2.2⟩)
  ·go_wp2
   go_region_with (first|(go_at_call 130;have hc_:=Q1L k v5.drew (HI5.out.grown hk hBw (Kaq _) (Below.drew (Below.refl _ _))).cur hk5;with_reducible refine hc_.mono ?_;clear hc_;rintro e x0 ⟨fa,fp,rfl,ha,hp,hcx,hgx⟩;have I0:=Q02 (HI5.out.drawd hk hBw (Kaq _) hgx hcx);have k0:=I0.out.boxc;obtain ⟨u1,c1⟩:=(I0.out.row him (show 1 < 5 by decide)).1;have f1:=(I0.out.row him (show 1 < 5 by decide)).2;obtain ⟨u2,c2⟩:=(I0.out.row him (show 2 < 5 by decide)).1;have f2:=(I0.out.row him (show 2 < 5 by decide)).2;have I6:=Q02 (Qdr HX.out I0.out hk hBw him fa fp);obtain ⟨W6,hW6⟩:∃W,(x0.setCell ⟨g,i * 5+1,none⟩ (.int .i64 fa)).setCell ⟨g,i * 5+2,none⟩ (.int .i64 fp)=W:=⟨_,rfl⟩;rw [hW6] at I6;have HI6:=I6;have HLn:=Q02 (show (m.set i ⟨su,fa,fp,sv,st⟩).length=m.length from List.length_set);have ct6:=HI6.out.boxc;rw [HLn.out] at ct6;have cr6:=HI6.out.resc.1;have fr6:=HI6.out.resc.2;have HD:=Q02 (HI6.out.done hk);rw [HLn.out] at HD;have HL:=Q02 HI6.out.ln;clear hcx hgx I6 HI6 I0))
   all_goals (
    go_wp2
    refine bodyPost_ret (v:=tab (.slice (some ⟨g,0,none⟩) m.length cap)) (by simp [results,Tryz.results83,go_sem,cr6]) rfl ⟨_,_,rfl,HL.out,HD.out.1,HD.out.2.1,HD.out.2.2⟩)
  ·obtain ⟨W7,hW7⟩:∃W,v5.alloc (.cells #[.int .i64 (-1),.int .i64 100001,.int .i64 1] 3)=W:=⟨_,rfl⟩
   have HI7:Hid (BInv k B w.heap.size w W7 m g cap):=by rw [←hW7];exact HI5.out.grown hk hBw (Kaq _) ((Below.refl _ _).alloc (Kaq _) _)
   have p0:W7.drew.cell? ⟨v5.heap.size,0,none⟩=some (.int .i64 (-1)):=by rw [←hW7];simp [go_sem]
   have p1:W7.drew.cell? ⟨v5.heap.size,1,none⟩=some (.int .i64 100001):=by rw [←hW7];simp [go_sem]
   have p2:W7.drew.cell? ⟨v5.heap.size,2,none⟩=some (.int .i64 1):=by rw [←hW7];simp [go_sem]
   have HPK:=Q02 (Qhw k v5.heap.size (-1) 100001 1 W7.drew (HI7.out.grown hk hBw (Kaq _) (Below.drew (Below.refl _ _))).cur (by rw [←hW7];show v5.heap.size < (v5.alloc _).heap.size;simp) (by omega) p0 p1 p2)
   clear p0 p1 p2
   have hk7:v5.heap.size < W7.heap.size:=by rw [←hW7];simp
   have ct7:=HI7.out.boxc
   go_wp2
   go_region_with (first|(go_at_call 55;have hc_:=HPK.out;with_reducible refine hc_.mono ?_;clear hc_;rintro e x0 ⟨pv,rfl,hcx,hgx⟩;have I0:=Q02 (HI7.out.drawd hk hBw (Kaq _) hgx hcx);have k0:=I0.out.boxc;obtain ⟨u1,c1⟩:=(I0.out.row him (show 3 < 5 by decide)).1;have f1:=(I0.out.row him (show 3 < 5 by decide)).2;have I6:=Q02 (Qhx HX.out I0.out hk hBw him pv);obtain ⟨W6,hW6⟩:∃W,x0.setCell ⟨g,i * 5+3,none⟩ (.int .i64 pv)=W:=⟨_,rfl⟩;rw [hW6] at I6;have HI6:=I6;have HLn:=Q02 (show (m.set i ⟨su,sa,sp,pv,st⟩).length=m.length from List.length_set);have ct6:=HI6.out.boxc;rw [HLn.out] at ct6;have cr6:=HI6.out.resc.1;have fr6:=HI6.out.resc.2;have HD:=Q02 (HI6.out.done hk);rw [HLn.out] at HD;have HL:=Q02 HI6.out.ln;clear hcx hgx I6 HI6 I0))
   all_goals (
    go_wp2
    refine bodyPost_ret (v:=tab (.slice (some ⟨g,0,none⟩) m.length cap)) (by simp [results,Tryz.results83,go_sem,cr6]) rfl ⟨_,_,rfl,HL.out,HD.out.1,HD.out.2.1,HD.out.2.2⟩)
  ·obtain ⟨W7,hW7⟩:∃W,v5.alloc (.cells #[.int .i64 (-1),.int .i64 200001,.int .i64 1] 3)=W:=⟨_,rfl⟩
   have HI7:Hid (BInv k B w.heap.size w W7 m g cap):=by rw [←hW7];exact HI5.out.grown hk hBw (Kaq _) ((Below.refl _ _).alloc (Kaq _) _)
   have p0:W7.drew.cell? ⟨v5.heap.size,0,none⟩=some (.int .i64 (-1)):=by rw [←hW7];simp [go_sem]
   have p1:W7.drew.cell? ⟨v5.heap.size,1,none⟩=some (.int .i64 200001):=by rw [←hW7];simp [go_sem]
   have p2:W7.drew.cell? ⟨v5.heap.size,2,none⟩=some (.int .i64 1):=by rw [←hW7];simp [go_sem]
   have HPK:=Q02 (Qhw k v5.heap.size (-1) 200001 1 W7.drew (HI7.out.grown hk hBw (Kaq _) (Below.drew (Below.refl _ _))).cur (by rw [←hW7];show v5.heap.size < (v5.alloc _).heap.size;simp) (by omega) p0 p1 p2)
   clear p0 p1 p2
   have hk7:v5.heap.size < W7.heap.size:=by rw [←hW7];simp
   have ct7:=HI7.out.boxc
   go_wp2
   go_region_with (first|(go_at_call 55;have hc_:=HPK.out;with_reducible refine hc_.mono ?_;clear hc_;rintro e x0 ⟨pv,rfl,hcx,hgx⟩;have I0:=Q02 (HI7.out.drawd hk hBw (Kaq _) hgx hcx);have k0:=I0.out.boxc;obtain ⟨u1,c1⟩:=(I0.out.row him (show 4 < 5 by decide)).1;have f1:=(I0.out.row him (show 4 < 5 by decide)).2;have I6:=Q02 (Qhs HX.out I0.out hk hBw him pv);obtain ⟨W6,hW6⟩:∃W,x0.setCell ⟨g,i * 5+4,none⟩ (.int .i64 pv)=W:=⟨_,rfl⟩;rw [hW6] at I6;have HI6:=I6;have HLn:=Q02 (show (m.set i ⟨su,sa,sp,sv,pv⟩).length=m.length from List.length_set);have ct6:=HI6.out.boxc;rw [HLn.out] at ct6;have cr6:=HI6.out.resc.1;have fr6:=HI6.out.resc.2;have HD:=Q02 (HI6.out.done hk);rw [HLn.out] at HD;have HL:=Q02 HI6.out.ln;clear hcx hgx I6 HI6 I0))
   all_goals (
    go_wp2
    refine bodyPost_ret (v:=tab (.slice (some ⟨g,0,none⟩) m.length cap)) (by simp [results,Tryz.results83,go_sem,cr6]) rfl ⟨_,_,rfl,HL.out,HD.out.1,HD.out.2.1,HD.out.2.2⟩)
end Go.Proofs.YtpneolgdghbinaaGreat
