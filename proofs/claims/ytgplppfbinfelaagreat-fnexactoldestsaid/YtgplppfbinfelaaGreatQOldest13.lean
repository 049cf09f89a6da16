/- Several texts in one: Backs, SBacks, LSlot, ShT, ShA, ShGs, TableMath, STabS, STabS2. -/
import Derived.Deep.RegionHeld3
import Derived.Test.YtgplppfbinfelaaGreatQOldest03
namespace Go.Proofs.YtgplppfbinfelaaGreat
open Go.ChangeShapes Go.WideShapes Go.ChangeAt Go.RowKit Go.Joins
set_option linter.unusedVariables false
set_option linter.unusedSimpArgs false
set_option maxRecDepth 100000
set_option maxHeartbeats 40000000
abbrev Bk:=Int × Int × Bool
def layK:Lay Bk:=⟨3,fun a=> [.int .i64 a.1,.int .i64 a.2.1,.bool a.2.2],(0,0,false),fun _=> rfl⟩
abbrev back (i g:Int) (d:Bool):Value:=.agg #[.int .i64 i,.int .i64 g,.bool d]
abbrev RdK:=RdL layK
abbrev ownK:=ownL layK 226
theorem RdL.back {C:Nat} {w:World} {b off:Nat} {l:List Bk} (h:∀i,i < l.length→∀j,j < layK.k→w.cell? ⟨b,off+i * layK.k+j,none⟩=(layK.cs (l.getD i layK.d))[j]?) (i:Nat) (hi:i < l.length):
  w.cell? ⟨b,off+i * 3,none⟩=some (.int .i64 (l.getD i (0,0,false)).1)∧w.cell? ⟨b,off+i * 3+1,none⟩=some (.int .i64 (l.getD i (0,0,false)).2.1)∧w.cell? ⟨b,off+i * 3+2,none⟩=some (.bool (l.getD i (0,0,false)).2.2):=
 ⟨h i hi 0 (by decide),h i hi 1 (by decide),h i hi 2 (by decide)⟩
theorem cellsLawsBack:Tryz.prog.cellsOf 275=3:=by kernel_rfl
theorem infoBack:(Tryz.prog.info? 226).map (fun i=> (i.zero,i.size,i.bytes))=some (some (.agg #[.int .i64 0,.int .i64 0,.bool false]),3,24):=by kernel_rfl
theorem cellsInt1:Tryz.prog.cellsOf 3=1:=by kernel_rfl
theorem cellsBool1:Tryz.prog.cellsOf 4=1:=by kernel_rfl
theorem open_backs_cells {H:Type} {enc:TypeId × Value→H} {W:World} {fuel:Nat} {cs:List Value} {x:DataW H × List MemPlace} (h:DataW.trod enc Tryz.prog W 0 (fun _=> true) true fuel 25 cs=some x):
  ∃(o:Option Addr) (cap:Nat) (l:List Bk),cs=[.slice o l.length cap]∧l.length≤maxLen∧RdK W.heap.size W o l:=by
 refine open_list layK (by decide) Tryz.underlying25 cellsLawsBack ?_ h
 intro n cs y hl hy
 match cs,hl with
 |[c0,c1,c2],_=>
  obtain ⟨y0,y1,y2,m,_,_,h0,h1,h2⟩:=Go.Deep.trod_struct3 Tryz.underlying275 hy
  simp [cellsInt1,cellsBool1] at h0 h1 h2
  obtain ⟨a,e0,_,_⟩:=DataW.trod_int Tryz.underlying3 h0
  obtain ⟨b,e1,_,_⟩:=DataW.trod_int Tryz.underlying3 h1
  obtain ⟨c,e2,_⟩:=DataW.trod_bool Tryz.underlying4 h2
  simp at e0 e1 e2
  subst e0 e1 e2
  exact ⟨(a,b,c),rfl⟩
theorem toBack_any (i g:Int) (d:Bool) (w:World):
  Calls Tryz.prog 194 #[back i g d] w fun e w'=> e=.returned (back i g d)∧Below w.heap.size w w':=by
 have hB:Below w.heap.size w w:=Below.refl _ _
 go_enter Tryz.func194,Tryz.ntmps194
 go_wp2
 refine bodyPost_ret (v:=.agg #[.int .i64 i,.int .i64 g,.bool d]) (by simp [results,Tryz.results194,go_sem]) rfl ⟨rfl, ?_⟩
 (repeat (first|with_reducible (first|exact hB|exact Below.refl _ _|refine Below.drew ?_|refine below_drewN ?_ _|refine Below.alloc ?_ ?_ _|refine Below.setCell ?_ ?_ _)|(focus (simp;first|done|omega))|omega))
theorem eqBack_same (i g:Int) (d:Bool) (w:World):
  Calls Tryz.prog 207 #[back i g d,back i g d] w fun e w'=> e=.returned (.bool true)∧Below w.heap.size w w':=by
 have hB:Below w.heap.size w w:=Below.refl _ _
 go_enter Tryz.func207,Tryz.ntmps207
 go_wp2
 all_goals go_ret
 all_goals exact ⟨rfl,by (repeat (first|with_reducible (first|exact hB|exact Below.refl _ _|refine Below.drew ?_|refine below_drewN ?_ _|refine Below.alloc ?_ ?_ _|refine Below.setCell ?_ ?_ _)|(focus (simp;first|done|omega))|omega))⟩
theorem szBackS_any (o:Option Addr) (len cap:Nat) (n:Int) (w:World) (hl:len≤maxLen) (h0:0≤n) (h1:n≤1048576):
  Calls Tryz.prog 141 #[.slice o len cap,.int .i64 n] w fun e w'=> e=.returned (.int .i64 (if n - len < 0 then -1 else n - len))∧w=w':=by
 unfold maxLen at hl
 by_cases h:n - len < 0
 ·rw [if_pos h]
  go_enter Tryz.func141,Tryz.ntmps141
  go_wp2
  go_ret
  exact ⟨rfl,rfl⟩
 ·rw [if_neg h]
  go_enter Tryz.func141,Tryz.ntmps141
  go_wp2
  go_ret
  exact ⟨rfl,rfl⟩
theorem fillK_step {w wr:World} {base g c:Nat} {l:List Bk} {k:Nat} {x y:Int} {z:Bool} (hxy:l.getD k (0,0,false)=(x,y,z)) (hk:k < l.length) (hg:base≤g) (hown:wr.ownsRow w.heap.size 226 3 (.slice (some ⟨g,0,none⟩) l.length c) l.length ((fillL layK l k).flatMap layK.cs))
  (hB:Below base w wr):(((wr.setCell ⟨g,k * 3,none⟩ (.int .i64 x)).setCell ⟨g,k * 3+1,none⟩ (.int .i64 y)).setCell ⟨g,k * 3+2,none⟩ (.bool z)).ownsRow w.heap.size 226 3 (.slice (some ⟨g,0,none⟩) l.length c) l.length ((fillL layK l (k+1)).flatMap layK.cs)∧
   Below base w (((wr.setCell ⟨g,k * 3,none⟩ (.int .i64 x)).setCell ⟨g,k * 3+1,none⟩ (.int .i64 y)).setCell ⟨g,k * 3+2,none⟩ (.bool z)):=by
 have h:=(((hown.stored (k * 3) (.int .i64 x)).1.stored (k * 3+1) (.int .i64 y)).1.stored (k * 3+2) (.bool z)).1
 rw [flat_set3 layK rfl (a:=(x,y,z)) rfl,←hxy,show l.getD k (0,0,false)=l.getD k layK.d from rfl,fillL_set layK l k hk] at h
 exact ⟨h,((hB.setCell (p:=⟨g,k * 3,none⟩) hg _).setCell (p:=⟨g,k * 3+1,none⟩) hg _).setCell (p:=⟨g,k * 3+2,none⟩) hg _⟩
theorem toBackS_any (o:Option Addr) (cap:Nat) (l:List Bk) (w:World) (hR:RdK w.heap.size w o l) (hlen:l.length≤1048576):
  Calls Tryz.prog 153 #[.slice o l.length cap] w fun e w'=> ∃g,e=.returned (.slice (some ⟨g,0,none⟩) l.length l.length)∧ownK w' w.heap.size (.slice (some ⟨g,0,none⟩) l.length l.length) l∧Below w.heap.size w w':=by
 obtain ⟨i0,hi,hz0,hz1,hz2⟩:=info_parts infoBack
 have hB:Below w.heap.size w w:=Below.refl _ _
 go_enter Tryz.func153,Tryz.ntmps153
 go_wp2_with (at_make;refine wpList_make_full _ rfl _ _ 44 rfl w.heap.size 226 i0 (.agg #[.int .i64 0,.int .i64 0,.bool false]) 3 Tryz.underlying44 hi hz0 hz1 _ _ _ _ l.length rfl rfl rfl rfl ?b2 ?b3 ?b4 ?_)
 case b2=> rw [hz2];omega
 case b3=> unfold maxLen;omega
 case b4=> simp
 intro w1 hown hgrow
 have hB1:Below w.heap.size w w1:=hB.grown hgrow (Nat.le_refl _) (fun k h=> by cases h)
 have hown1:w1.ownsRow w.heap.size 226 3 (.slice (some ⟨w.heap.size,0,none⟩) l.length l.length) l.length ((fillL layK l 0).flatMap layK.cs):=by
  rw [fillL_zero,←made_flat layK (.agg #[.int .i64 0,.int .i64 0,.bool false]) rfl];exact hown
 clear hown hgrow hB
 go_wp2
 go_loopw [4] (fun i wr=> ∃k:Nat,k≤l.length∧i=.int .i64 k∧wr.ownsRow w.heap.size 226 3 (.slice (some ⟨w.heap.size,0,none⟩) l.length l.length) l.length ((fillL layK l k).flatMap layK.cs)∧Below w.heap.size w wr)
  (fun i _=> l.length - (intOf i).toNat)
 case atStart=> exact ⟨0,Nat.zero_le _,rfl,hown1,hB1⟩
 case round=>
  obtain ⟨k,hk,rfl,hown,hBr⟩:=hrel
  by_cases hlt:k < l.length
  ·rcases hR with hR|⟨b,off,rfl,hbl,hcell⟩
   ·subst hR;simp at hlt
   obtain ⟨x,y,z,hxy⟩:∃x y z,l.getD k (0,0,false)=(x,y,z):=⟨_,_,_,rfl⟩
   have hcx:=RdL.back (C:=w.heap.size) hcell k hlt
   rw [hxy] at hcx
   have hc0:wr.cell? ⟨b,off+k * 3,none⟩=some (.int .i64 x):=(hBr.cell (p:=⟨b,off+k * 3,none⟩) hbl).trans hcx.1
   have hc1:wr.cell? ⟨b,off+k * 3+1,none⟩=some (.int .i64 y):=(hBr.cell (p:=⟨b,off+k * 3+1,none⟩) hbl).trans hcx.2.1
   have hc2:wr.cell? ⟨b,off+k * 3+2,none⟩=some (.bool z):=(hBr.cell (p:=⟨b,off+k * 3+2,none⟩) hbl).trans hcx.2.2
   have HW:=hide (hlt)
   clear hcell hcx
   go_wp2_with fail
   refine (toBack_any _ _ _ _).mono ?_
   rintro e w2 ⟨rfl,hb2⟩
   have hB2:Below w.heap.size w w2:=hBr.trans (hb2.mono hBr.size)
   have hown2:=own_kept hown hb2
   have hln:((fillL layK l k).flatMap layK.cs).length=l.length * 3:=by rw [flat_length,fillL_length layK l k hk];rfl
   have hcl0:=hown2.cellAt (k * 3) (by omega)
   have hcl1:=hown2.cellAt (k * 3+1) (by omega)
   have hcl2:=hown2.cellAt (k * 3+2) (by omega)
   have hf0:=hown2.frozenAt (k * 3)
   have hf1:=hown2.frozenAt (k * 3+1)
   have hf2:=hown2.frozenAt (k * 3+2)
   obtain ⟨u0,hu0⟩:∃u,w2.cell? ⟨w.heap.size,k * 3,none⟩=some u:=⟨_,hcl0.trans (List.getElem?_eq_getElem (by omega))⟩
   obtain ⟨u1,hu1⟩:∃u,w2.cell? ⟨w.heap.size,k * 3+1,none⟩=some u:=⟨_,hcl1.trans (List.getElem?_eq_getElem (by omega))⟩
   obtain ⟨u2,hu2⟩:∃u,w2.cell? ⟨w.heap.size,k * 3+2,none⟩=some u:=⟨_,hcl2.trans (List.getElem?_eq_getElem (by omega))⟩
   have HR:=hide (fillK_step (g:=w.heap.size) hxy hlt (Nat.le_refl _) hown2 hB2)
   clear hxy hown hBr hcl0 hcl1 hcl2 hB1 hown1 hown2 hc0 hc1 hc2 hb2 hln
   go_wp2
   go_roundw
   case rel=> exact ⟨k+1,by omega,by go_num,HR.out.1,HR.out.2⟩
   case measure=> simp [intOf];omega
  ·have e:k=l.length:=by omega
   subst e
   rw [fillL_all] at hown
   go_wp2
   go_ret
   exact ⟨w.heap.size,rfl,hown,hBr⟩
theorem eqBackS_same (o1 o2:Option Addr) (c1 c2:Nat) (l:List Bk) (w:World) (h1:RdK w.heap.size w o1 l) (h2:RdK w.heap.size w o2 l) (hl:l.length≤1048576):
  Calls Tryz.prog 165 #[.slice o1 l.length c1,.slice o2 l.length c2] w fun e w'=> e=.returned (.bool true)∧Below w.heap.size w w':=by
 go_enter Tryz.func165,Tryz.ntmps165
 go_wp2
 go_loopw [5] (fun i wr=> ∃k:Nat,k≤l.length∧i=.int .i64 k∧Below w.heap.size w wr)
  (fun i _=> l.length - (intOf i).toNat)
 case atStart=> exact ⟨0,Nat.zero_le _,rfl,Below.refl _ _⟩
 case round=>
  obtain ⟨k,hk,rfl,hBr⟩:=hrel
  by_cases hlt:k < l.length
  ·rcases h1 with h1|⟨b1,off1,rfl,hb1,hcell1⟩
   ·subst h1;simp at hlt
   rcases h2 with h2|⟨b2,off2,rfl,hb2,hcell2⟩
   ·subst h2;simp at hlt
   obtain ⟨x,y,z,hxy⟩:∃x y z,l.getD k (0,0,false)=(x,y,z):=⟨_,_,_,rfl⟩
   have hcx1:=RdL.back (C:=w.heap.size) hcell1 k hlt
   have hcx2:=RdL.back (C:=w.heap.size) hcell2 k hlt
   rw [hxy] at hcx1 hcx2
   have p0:wr.cell? ⟨b1,off1+k * 3,none⟩=some (.int .i64 x):=(hBr.cell (p:=⟨b1,off1+k * 3,none⟩) hb1).trans hcx1.1
   have p1:wr.cell? ⟨b1,off1+k * 3+1,none⟩=some (.int .i64 y):=(hBr.cell (p:=⟨b1,off1+k * 3+1,none⟩) hb1).trans hcx1.2.1
   have p2:wr.cell? ⟨b1,off1+k * 3+2,none⟩=some (.bool z):=(hBr.cell (p:=⟨b1,off1+k * 3+2,none⟩) hb1).trans hcx1.2.2
   have q0:wr.cell? ⟨b2,off2+k * 3,none⟩=some (.int .i64 x):=(hBr.cell (p:=⟨b2,off2+k * 3,none⟩) hb2).trans hcx2.1
   have q1:wr.cell? ⟨b2,off2+k * 3+1,none⟩=some (.int .i64 y):=(hBr.cell (p:=⟨b2,off2+k * 3+1,none⟩) hb2).trans hcx2.2.1
   have q2:wr.cell? ⟨b2,off2+k * 3+2,none⟩=some (.bool z):=(hBr.cell (p:=⟨b2,off2+k * 3+2,none⟩) hb2).trans hcx2.2.2
   have HB:=hide hBr
   have hsr:=hide hBr.size
   clear hcell1 hcell2 hBr hcx1 hcx2 hxy
   have i1:(k:Int) < (l.length:Int):=by omega
   go_wp2
   go_region_held3 (fun w'=> w'.cell? ⟨b1,off1+k * 3,none⟩=some (.int .i64 x)∧w'.cell? ⟨b1,off1+k * 3+1,none⟩=some (.int .i64 y)∧w'.cell? ⟨b1,off1+k * 3+2,none⟩=some (.bool z)∧w'.cell? ⟨b2,off2+k * 3,none⟩=some (.int .i64 x)∧w'.cell? ⟨b2,off2+k * 3+1,none⟩=some (.int .i64 y)∧w'.cell? ⟨b2,off2+k * 3+2,none⟩=some (.bool z)) (first|exact ⟨p0,p1,p2,q0,q1,q2⟩) (first|(go_at_call 207;refine (eqBack_same _ _ _ _).mono ?_;rintro e w2 ⟨rfl,hb2'⟩;replace hb2':Below wr.heap.size wr w2:=(Below.drew (Below.refl _ _)).trans hb2';have p0:=(hb2'.cell (p:=⟨b1,off1+k * 3,none⟩) (Nat.lt_of_lt_of_le hb1 hsr.out)).trans p0;have p1:=(hb2'.cell (p:=⟨b1,off1+k * 3+1,none⟩) (Nat.lt_of_lt_of_le hb1 hsr.out)).trans p1;have p2:=(hb2'.cell (p:=⟨b1,off1+k * 3+2,none⟩) (Nat.lt_of_lt_of_le hb1 hsr.out)).trans p2;have q0:=(hb2'.cell (p:=⟨b2,off2+k * 3,none⟩) (Nat.lt_of_lt_of_le hb2 hsr.out)).trans q0;have q1:=(hb2'.cell (p:=⟨b2,off2+k * 3+1,none⟩) (Nat.lt_of_lt_of_le hb2 hsr.out)).trans q1;have q2:=(hb2'.cell (p:=⟨b2,off2+k * 3+2,none⟩) (Nat.lt_of_lt_of_le hb2 hsr.out)).trans q2))
   go_wp2
   go_roundw
   case rel=> exact ⟨k+1,by omega,by go_num,HB.out.trans (hb2'.mono HB.out.size)⟩
   case measure=> simp [intOf];omega
  ·have e:k=l.length:=by omega
   subst e
   go_wp2
   go_ret
   exact ⟨rfl,hBr⟩
def backB (i g:Int):Bool:=decide (0≤i) && decide (i < 6) && decide (1≤g) && decide (g≤100)
theorem backB_iff {i g:Int}:backB i g=true↔0≤i∧i < 6∧1≤g∧g≤100:=by simp [backB,and_assoc]
def okAt (l:List Bk) (i:Nat):Bool:=backB (l.getD i (0,0,false)).1 (l.getD i (0,0,false)).2.1 && (decide (i=0)||decide ((l.getD (i - 1) (0,0,false)).1 < (l.getD i (0,0,false)).1))
def okTo (l:List Bk) (k:Nat):Prop:=∀i,i < k→okAt l i=true
def backsOkB (l:List Bk):Bool:=(List.range l.length).all (okAt l)
theorem backsOkB_iff {l:List Bk}:backsOkB l=true↔okTo l l.length:=by simp [backsOkB,okTo]
theorem okTo_succ {l:List Bk} {k:Nat} (h:okTo l k) (hk:okAt l k=true):okTo l (k+1):=fun i hi=> by
 rcases Nat.lt_succ_iff_lt_or_eq.1 hi with h1|h1
 ·exact h i h1
 ·rw [h1];exact hk
theorem backsOkB_no {l:List Bk} {k:Nat} (hk:k < l.length) (h:okAt l k=false):false=backsOkB l:=by
 cases hb:backsOkB l with
 |false=> rfl
 |true=> rw [backsOkB_iff.1 hb k hk] at h;cases h
theorem okAt_zero {l:List Bk} {x y:Int} {z:Bool} (h:l.getD 0 (0,0,false)=(x,y,z)):okAt l 0=backB x y:=by simp only [okAt,h];simp
theorem okAt_succ {l:List Bk} {k:Nat} {x y x' y':Int} {z z':Bool} (h:l.getD (k+1) (0,0,false)=(x,y,z)) (h':l.getD k (0,0,false)=(x',y',z')):okAt l (k+1)=(backB x y && decide (x' < x)):=by simp only [okAt,h,h',Nat.add_sub_cancel];simp
structure Sl where
 u:Bool
 a:Int
 p:Int
 v:Int
 t:Int
abbrev sl0:Sl:=⟨false,0,0,0,0⟩
def layS:Lay Sl:=⟨5,fun s=> [.bool s.u,.int .i64 s.a,.int .i64 s.p,.int .i64 s.v,.int .i64 s.t],sl0,fun _=> rfl⟩
abbrev slot (s:Sl):Value:=.agg #[.bool s.u,.int .i64 s.a,.int .i64 s.p,.int .i64 s.v,.int .i64 s.t]
abbrev RdS:=RdL layS
abbrev ownS:=ownL layS 165
abbrev InS:=InL layS 165
theorem RdL.slot {C:Nat} {w:World} {b off:Nat} {l:List Sl} (h:∀i,i < l.length→∀j,j < layS.k→w.cell? ⟨b,off+i * layS.k+j,none⟩=(layS.cs (l.getD i layS.d))[j]?) (i:Nat) (hi:i < l.length):
  w.cell? ⟨b,off+i * 5,none⟩=some (.bool (l.getD i sl0).u)∧w.cell? ⟨b,off+i * 5+1,none⟩=some (.int .i64 (l.getD i sl0).a)∧w.cell? ⟨b,off+i * 5+2,none⟩=some (.int .i64 (l.getD i sl0).p)∧w.cell? ⟨b,off+i * 5+3,none⟩=some (.int .i64 (l.getD i sl0).v)∧w.cell? ⟨b,off+i * 5+4,none⟩=some (.int .i64 (l.getD i sl0).t):=
 ⟨h i hi 0 (by decide),h i hi 1 (by decide),h i hi 2 (by decide),h i hi 3 (by decide),h i hi 4 (by decide)⟩
theorem flat_set5 {α:Type} (L:Lay α) (hk:L.k=5) {v0 v1 v2 v3 v4:Value} {a:α} (ha:L.cs a=[v0,v1,v2,v3,v4]):∀(l:List α) (i:Nat),(((((l.flatMap L.cs).set (i * 5) v0).set (i * 5+1) v1).set (i * 5+2) v2).set (i * 5+3) v3).set (i * 5+4) v4=(l.set i a).flatMap L.cs
 |[],i=> by simp
 |q::l,0=> by
  have hq:=(L.len q).trans hk
  match hc:L.cs q,hq with
  |[q0,q1,q2,q3,q4],_=> simp [ha,hc]
 |q::l,i+1=> by
  have hq:=(L.len q).trans hk
  match hc:L.cs q,hq with
  |[q0,q1,q2,q3,q4],_=>
   rw [show (i+1) * 5=i * 5+1+1+1+1+1 by omega]
   simp only [List.flatMap_cons,hc,List.cons_append,List.nil_append,List.set_cons_succ]
   rw [flat_set5 L hk ha l i]
theorem infoSlot:(Tryz.prog.info? 165).map (fun i=> (i.zero,i.size,i.bytes))=some (some (.agg #[.bool false,.int .i64 0,.int .i64 0,.int .i64 0,.int .i64 0]),5,40):=by kernel_rfl
theorem cellsInt1s:Tryz.prog.cellsOf 3=1:=by kernel_rfl
theorem cellsBool1s:Tryz.prog.cellsOf 4=1:=by kernel_rfl
theorem cellsLawsSlot:Tryz.prog.cellsOf 279=5:=by kernel_rfl
theorem open_slots_cells {H:Type} {enc:TypeId × Value→H} {W:World} {fuel:Nat} {cs:List Value} {x:DataW H × List MemPlace} (h:DataW.trod enc Tryz.prog W 0 (fun _=> true) true fuel 29 cs=some x):
  ∃(o:Option Addr) (cap:Nat) (l:List Sl),cs=[.slice o l.length cap]∧l.length≤maxLen∧RdS W.heap.size W o l:=by
 refine open_list layS (by decide) Tryz.underlying29 cellsLawsSlot ?_ h
 intro n cs y hl hy
 match cs,hl with
 |[c0,c1,c2,c3,c4],_=>
  obtain ⟨y0,y1,y2,y3,m,_,_,h0,h1,h2,h3⟩:=trod_struct4 Tryz.underlying279 hy
  simp [cellsInt1s,cellsBool1s,cellsLawsFlow] at h0 h1 h2 h3
  obtain ⟨u,e0,_⟩:=DataW.trod_bool Tryz.underlying4 h0
  obtain ⟨z0,z1,m',_,_,k0,k1⟩:=trod_struct2 Tryz.underlying73 h1
  simp [cellsInt1s] at k0 k1
  obtain ⟨a,e1,_,_⟩:=DataW.trod_int Tryz.underlying3 k0
  obtain ⟨p,e2,_,_⟩:=DataW.trod_int Tryz.underlying3 k1
  obtain ⟨v,e3,_,_⟩:=DataW.trod_int Tryz.underlying3 h2
  obtain ⟨t,e4,_,_⟩:=DataW.trod_int Tryz.underlying3 h3
  simp at e0 e1 e2 e3 e4
  subst e0 e1 e2 e3 e4
  exact ⟨⟨u,a,p,v,t⟩,rfl⟩
theorem toSlot_any (s:Sl) (w:World):
  Calls Tryz.prog 196 #[slot s] w fun e w'=> e=.returned (slot s)∧Below w.heap.size w w':=by
 have hB:Below w.heap.size w w:=Below.refl _ _
 go_enter Tryz.func196,Tryz.ntmps196
 go_wp2_with (first|(go_at_call 30;refine (toFlow_any s.a s.p _).mono ?_;rintro e w1a ⟨rfl,hba⟩;obtain ⟨hca,hfa⟩:=bcell hba;have hz0a:w.heap.size < w1a.heap.size:=(by have hz:=hba.size;(try simp at hz);omega);have hz1a:w.heap.size+1 < w1a.heap.size:=(by have hz:=hba.size;(try simp at hz);omega);have hB:Below w.heap.size w w1a:=(by refine Below.trans ?_ (hba.mono (by have hs:=hB.size;(try simp) <;> omega));(repeat (first|with_reducible (first|exact hB|exact Below.refl _ _|refine Below.drew ?_|refine below_drewN ?_ _|refine Below.alloc ?_ ?_ _|refine Below.setCell ?_ ?_ _)|(focus (simp;first|done|omega))|omega)))))
 refine bodyPost_ret (v:=slot s) (by simp [results,Tryz.results196,go_sem,hca,hz0a,hz1a]) rfl ⟨rfl, ?_⟩
 (repeat (first|with_reducible (first|exact hB|exact Below.refl _ _|refine Below.drew ?_|refine below_drewN ?_ _|refine Below.alloc ?_ ?_ _|refine Below.setCell ?_ ?_ _)|(focus (simp;first|done|omega))|omega))
theorem eqSlot_same (s:Sl) (w:World):
  Calls Tryz.prog 209 #[slot s,slot s] w fun e w'=> e=.returned (.bool true)∧Below w.heap.size w w':=by
 have hB:Below w.heap.size w w:=Below.refl _ _
 go_enter Tryz.func209,Tryz.ntmps209
 go_wp2_with (first|(go_at_call 169;refine (eqFlow_same s.a s.p _).mono ?_;rintro e w1a ⟨rfl,hba⟩;obtain ⟨hca,hfa⟩:=bcell hba;have hz0a:w.heap.size < w1a.heap.size:=(by have hz:=hba.size;(try simp at hz);omega);have hz1a:w.heap.size+1 < w1a.heap.size:=(by have hz:=hba.size;(try simp at hz);omega);have hB:Below w.heap.size w w1a:=(by refine Below.trans ?_ (hba.mono (by have hs:=hB.size;(try simp) <;> omega));(repeat (first|with_reducible (first|exact hB|exact Below.refl _ _|refine Below.drew ?_|refine below_drewN ?_ _|refine Below.alloc ?_ ?_ _|refine Below.setCell ?_ ?_ _)|(focus (simp;first|done|omega))|omega)))))
 all_goals go_ret
 all_goals exact ⟨rfl,by (repeat (first|with_reducible (first|exact hB|exact Below.refl _ _|refine Below.drew ?_|refine below_drewN ?_ _|refine Below.alloc ?_ ?_ _|refine Below.setCell ?_ ?_ _)|(focus (simp;first|done|omega))|omega))⟩
theorem szSlotS_any (o:Option Addr) (len cap:Nat) (n:Int) (w:World) (hl:len≤maxLen) (h0:0≤n) (h1:n≤1048576):
  Calls Tryz.prog 143 #[.slice o len cap,.int .i64 n] w fun e w'=> e=.returned (.int .i64 (if n - len < 0 then -1 else n - len))∧w=w':=by
 unfold maxLen at hl
 by_cases h:n - len < 0
 ·rw [if_pos h]
  go_enter Tryz.func143,Tryz.ntmps143
  go_wp2
  go_ret
  exact ⟨rfl,rfl⟩
 ·rw [if_neg h]
  go_enter Tryz.func143,Tryz.ntmps143
  go_wp2
  go_ret
  exact ⟨rfl,rfl⟩
theorem stored5 {e:TypeId} {w wr:World} {base B g c n:Nat} {l:List Sl} {k:Nat} (s:Sl) (hg:B≤g) (hown:wr.ownsRow base e 5 (.slice (some ⟨g,0,none⟩) n c) n (l.flatMap layS.cs)) (hB:Below B w wr):
  (((((wr.setCell ⟨g,k * 5,none⟩ (.bool s.u)).setCell ⟨g,k * 5+1,none⟩ (.int .i64 s.a)).setCell ⟨g,k * 5+2,none⟩ (.int .i64 s.p)).setCell ⟨g,k * 5+3,none⟩ (.int .i64 s.v)).setCell ⟨g,k * 5+4,none⟩ (.int .i64 s.t)).ownsRow base e 5 (.slice (some ⟨g,0,none⟩) n c) n ((l.set k s).flatMap layS.cs)∧
   Below B w (((((wr.setCell ⟨g,k * 5,none⟩ (.bool s.u)).setCell ⟨g,k * 5+1,none⟩ (.int .i64 s.a)).setCell ⟨g,k * 5+2,none⟩ (.int .i64 s.p)).setCell ⟨g,k * 5+3,none⟩ (.int .i64 s.v)).setCell ⟨g,k * 5+4,none⟩ (.int .i64 s.t)):=by
 have h:=(((((hown.stored (k * 5) (.bool s.u)).1.stored (k * 5+1) (.int .i64 s.a)).1.stored (k * 5+2) (.int .i64 s.p)).1.stored (k * 5+3) (.int .i64 s.v)).1.stored (k * 5+4) (.int .i64 s.t)).1
 rw [flat_set5 layS rfl (a:=s) rfl] at h
 exact ⟨h,((((hB.setCell (p:=⟨g,k * 5,none⟩) hg _).setCell (p:=⟨g,k * 5+1,none⟩) hg _).setCell (p:=⟨g,k * 5+2,none⟩) hg _).setCell (p:=⟨g,k * 5+3,none⟩) hg _).setCell (p:=⟨g,k * 5+4,none⟩) hg _⟩
theorem toSlotS_any (o:Option Addr) (cap:Nat) (l:List Sl) (w:World) (hR:RdS w.heap.size w o l) (hlen:l.length≤1048576):
  Calls Tryz.prog 155 #[.slice o l.length cap] w fun e w'=> ∃g,e=.returned (.slice (some ⟨g,0,none⟩) l.length l.length)∧ownS w' w.heap.size (.slice (some ⟨g,0,none⟩) l.length l.length) l∧Below w.heap.size w w':=by
 obtain ⟨i0,hi,hz0,hz1,hz2⟩:=info_parts infoSlot
 have hB:Below w.heap.size w w:=Below.refl _ _
 go_enter Tryz.func155,Tryz.ntmps155
 go_wp2_with (at_make;refine wpList_make_full _ rfl _ _ 47 rfl w.heap.size 165 i0 (slot sl0) 5 Tryz.underlying47 hi hz0 hz1 _ _ _ _ l.length rfl rfl rfl rfl ?b2 ?b3 ?b4 ?_)
 case b2=> rw [hz2];omega
 case b3=> unfold maxLen;omega
 case b4=> simp
 intro w1 hown hgrow
 have hB1:Below w.heap.size w w1:=hB.grown hgrow (Nat.le_refl _) (fun k h=> by cases h)
 have hown1:w1.ownsRow w.heap.size 165 5 (.slice (some ⟨w.heap.size,0,none⟩) l.length l.length) l.length ((fillL layS l 0).flatMap layS.cs):=by
  rw [fillL_zero,←made_flat layS (slot sl0) rfl];exact hown
 clear hown hgrow hB
 go_wp2
 go_loopw [4] (fun i wr=> ∃k:Nat,k≤l.length∧i=.int .i64 k∧wr.ownsRow w.heap.size 165 5 (.slice (some ⟨w.heap.size,0,none⟩) l.length l.length) l.length ((fillL layS l k).flatMap layS.cs)∧Below w.heap.size w wr)
  (fun i _=> l.length - (intOf i).toNat)
 case atStart=> exact ⟨0,Nat.zero_le _,rfl,hown1,hB1⟩
 case round=>
  obtain ⟨k,hk,rfl,hown,hBr⟩:=hrel
  by_cases hlt:k < l.length
  ·rcases hR with hR|⟨b,off,rfl,hbl,hcell⟩
   ·subst hR;simp at hlt
   obtain ⟨s,hxy⟩:∃s,l.getD k sl0=s:=⟨_,rfl⟩
   have hcx:=RdL.slot (C:=w.heap.size) hcell k hlt
   rw [hxy] at hcx
   have hc0:wr.cell? ⟨b,off+k * 5,none⟩=some (.bool s.u):=(hBr.cell (p:=⟨b,off+k * 5,none⟩) hbl).trans hcx.1
   have hc1:wr.cell? ⟨b,off+k * 5+1,none⟩=some (.int .i64 s.a):=(hBr.cell (p:=⟨b,off+k * 5+1,none⟩) hbl).trans hcx.2.1
   have hc2:wr.cell? ⟨b,off+k * 5+2,none⟩=some (.int .i64 s.p):=(hBr.cell (p:=⟨b,off+k * 5+2,none⟩) hbl).trans hcx.2.2.1
   have hc3:wr.cell? ⟨b,off+k * 5+3,none⟩=some (.int .i64 s.v):=(hBr.cell (p:=⟨b,off+k * 5+3,none⟩) hbl).trans hcx.2.2.2.1
   have hc4:wr.cell? ⟨b,off+k * 5+4,none⟩=some (.int .i64 s.t):=(hBr.cell (p:=⟨b,off+k * 5+4,none⟩) hbl).trans hcx.2.2.2.2
   have HW:=hide (hlt)
   clear hcell hcx
   go_wp2_with fail
   refine (toSlot_any s _).mono ?_
   rintro e w2 ⟨rfl,hb2⟩
   have hB2:Below w.heap.size w w2:=hBr.trans (hb2.mono hBr.size)
   have hown2:=own_kept hown hb2
   have hln:((fillL layS l k).flatMap layS.cs).length=l.length * 5:=by rw [flat_length,fillL_length layS l k hk];rfl
   obtain ⟨u0,hu0⟩:∃u,w2.cell? ⟨w.heap.size,k * 5,none⟩=some u:=⟨_,(hown2.cellAt (k * 5) (by omega)).trans (List.getElem?_eq_getElem (by omega))⟩
   have hf0:=hown2.frozenAt (k * 5)
   obtain ⟨u1,hu1⟩:∃u,w2.cell? ⟨w.heap.size,k * 5+1,none⟩=some u:=⟨_,(hown2.cellAt (k * 5+1) (by omega)).trans (List.getElem?_eq_getElem (by omega))⟩
   have hf1:=hown2.frozenAt (k * 5+1)
   obtain ⟨u2,hu2⟩:∃u,w2.cell? ⟨w.heap.size,k * 5+2,none⟩=some u:=⟨_,(hown2.cellAt (k * 5+2) (by omega)).trans (List.getElem?_eq_getElem (by omega))⟩
   have hf2:=hown2.frozenAt (k * 5+2)
   obtain ⟨u3,hu3⟩:∃u,w2.cell? ⟨w.heap.size,k * 5+3,none⟩=some u:=⟨_,(hown2.cellAt (k * 5+3) (by omega)).trans (List.getElem?_eq_getElem (by omega))⟩
   have hf3:=hown2.frozenAt (k * 5+3)
   obtain ⟨u4,hu4⟩:∃u,w2.cell? ⟨w.heap.size,k * 5+4,none⟩=some u:=⟨_,(hown2.cellAt (k * 5+4) (by omega)).trans (List.getElem?_eq_getElem (by omega))⟩
   have hf4:=hown2.frozenAt (k * 5+4)
   have HR:=hide (stored5 (k:=k) s (Nat.le_refl _) hown2 hB2)
   have HX:=hide (show (fillL layS l k).set k s=fillL layS l (k+1) by rw [←hxy];exact fillL_set layS l k hlt)
   clear hxy hown hBr hB1 hown1 hown2 hc0 hc1 hc2 hc3 hc4 hb2 hln
   go_wp2
   go_roundw
   case rel=> exact ⟨k+1,by omega,by go_num,(by have:=HR.out.1;rw [HX.out] at this;exact this),HR.out.2⟩
   case measure=> simp [intOf];omega
  ·have e:k=l.length:=by omega
   subst e
   rw [fillL_all] at hown
   go_wp2
   go_ret
   exact ⟨w.heap.size,rfl,hown,hBr⟩
theorem eqSlotS_same (o1 o2:Option Addr) (c1 c2:Nat) (l:List Sl) (w:World) (h1:RdS w.heap.size w o1 l) (h2:RdS w.heap.size w o2 l) (hl:l.length≤1048576):
  Calls Tryz.prog 167 #[.slice o1 l.length c1,.slice o2 l.length c2] w fun e w'=> e=.returned (.bool true)∧Below w.heap.size w w':=by
 go_enter Tryz.func167,Tryz.ntmps167
 go_wp2
 go_loopw [5] (fun i wr=> ∃k:Nat,k≤l.length∧i=.int .i64 k∧Below w.heap.size w wr)
  (fun i _=> l.length - (intOf i).toNat)
 case atStart=> exact ⟨0,Nat.zero_le _,rfl,Below.refl _ _⟩
 case round=>
  obtain ⟨k,hk,rfl,hBr⟩:=hrel
  by_cases hlt:k < l.length
  ·rcases h1 with h1|⟨b1,off1,rfl,hb1,hcell1⟩
   ·subst h1;simp at hlt
   rcases h2 with h2|⟨b2,off2,rfl,hb2,hcell2⟩
   ·subst h2;simp at hlt
   obtain ⟨s,hxy⟩:∃s,l.getD k sl0=s:=⟨_,rfl⟩
   have hcx1:=RdL.slot (C:=w.heap.size) hcell1 k hlt
   have hcx2:=RdL.slot (C:=w.heap.size) hcell2 k hlt
   rw [hxy] at hcx1 hcx2
   have p0:wr.cell? ⟨b1,off1+k * 5,none⟩=some (.bool s.u):=(hBr.cell (p:=⟨b1,off1+k * 5,none⟩) hb1).trans hcx1.1
   have p1:wr.cell? ⟨b1,off1+k * 5+1,none⟩=some (.int .i64 s.a):=(hBr.cell (p:=⟨b1,off1+k * 5+1,none⟩) hb1).trans hcx1.2.1
   have p2:wr.cell? ⟨b1,off1+k * 5+2,none⟩=some (.int .i64 s.p):=(hBr.cell (p:=⟨b1,off1+k * 5+2,none⟩) hb1).trans hcx1.2.2.1
   have p3:wr.cell? ⟨b1,off1+k * 5+3,none⟩=some (.int .i64 s.v):=(hBr.cell (p:=⟨b1,off1+k * 5+3,none⟩) hb1).trans hcx1.2.2.2.1
   have p4:wr.cell? ⟨b1,off1+k * 5+4,none⟩=some (.int .i64 s.t):=(hBr.cell (p:=⟨b1,off1+k * 5+4,none⟩) hb1).trans hcx1.2.2.2.2
   have q0:wr.cell? ⟨b2,off2+k * 5,none⟩=some (.bool s.u):=(hBr.cell (p:=⟨b2,off2+k * 5,none⟩) hb2).trans hcx2.1
   have q1:wr.cell? ⟨b2,off2+k * 5+1,none⟩=some (.int .i64 s.a):=(hBr.cell (p:=⟨b2,off2+k * 5+1,none⟩) hb2).trans hcx2.2.1
   have q2:wr.cell? ⟨b2,off2+k * 5+2,none⟩=some (.int .i64 s.p):=(hBr.cell (p:=⟨b2,off2+k * 5+2,none⟩) hb2).trans hcx2.2.2.1
   have q3:wr.cell? ⟨b2,off2+k * 5+3,none⟩=some (.int .i64 s.v):=(hBr.cell (p:=⟨b2,off2+k * 5+3,none⟩) hb2).trans hcx2.2.2.2.1
   have q4:wr.cell? ⟨b2,off2+k * 5+4,none⟩=some (.int .i64 s.t):=(hBr.cell (p:=⟨b2,off2+k * 5+4,none⟩) hb2).trans hcx2.2.2.2.2
   have HB:=hide hBr
   have hsr:=hide hBr.size
   clear hcell1 hcell2 hBr hcx1 hcx2 hxy
   have i1:(k:Int) < (l.length:Int):=by omega
   go_wp2
   go_region_held3 (fun w'=> w'.cell? ⟨b1,off1+k * 5,none⟩=some (.bool s.u)∧w'.cell? ⟨b1,off1+k * 5+1,none⟩=some (.int .i64 s.a)∧w'.cell? ⟨b1,off1+k * 5+2,none⟩=some (.int .i64 s.p)∧w'.cell? ⟨b1,off1+k * 5+3,none⟩=some (.int .i64 s.v)∧w'.cell? ⟨b1,off1+k * 5+4,none⟩=some (.int .i64 s.t)∧w'.cell? ⟨b2,off2+k * 5,none⟩=some (.bool s.u)∧w'.cell? ⟨b2,off2+k * 5+1,none⟩=some (.int .i64 s.a)∧w'.cell? ⟨b2,off2+k * 5+2,none⟩=some (.int .i64 s.p)∧w'.cell? ⟨b2,off2+k * 5+3,none⟩=some (.int .i64 s.v)∧w'.cell? ⟨b2,off2+k * 5+4,none⟩=some (.int .i64 s.t)) (first|exact ⟨p0,p1,p2,p3,p4,q0,q1,q2,q3,q4⟩) (first|(go_at_call 209;refine (eqSlot_same s _).mono ?_;rintro e w2 ⟨rfl,hb2'⟩;replace hb2':Below wr.heap.size wr w2:=(Below.drew (Below.refl _ _)).trans hb2';have p0:=(hb2'.cell (p:=⟨b1,off1+k * 5,none⟩) (Nat.lt_of_lt_of_le hb1 hsr.out)).trans p0;have p1:=(hb2'.cell (p:=⟨b1,off1+k * 5+1,none⟩) (Nat.lt_of_lt_of_le hb1 hsr.out)).trans p1;have p2:=(hb2'.cell (p:=⟨b1,off1+k * 5+2,none⟩) (Nat.lt_of_lt_of_le hb1 hsr.out)).trans p2;have p3:=(hb2'.cell (p:=⟨b1,off1+k * 5+3,none⟩) (Nat.lt_of_lt_of_le hb1 hsr.out)).trans p3;have p4:=(hb2'.cell (p:=⟨b1,off1+k * 5+4,none⟩) (Nat.lt_of_lt_of_le hb1 hsr.out)).trans p4;have q0:=(hb2'.cell (p:=⟨b2,off2+k * 5,none⟩) (Nat.lt_of_lt_of_le hb2 hsr.out)).trans q0;have q1:=(hb2'.cell (p:=⟨b2,off2+k * 5+1,none⟩) (Nat.lt_of_lt_of_le hb2 hsr.out)).trans q1;have q2:=(hb2'.cell (p:=⟨b2,off2+k * 5+2,none⟩) (Nat.lt_of_lt_of_le hb2 hsr.out)).trans q2;have q3:=(hb2'.cell (p:=⟨b2,off2+k * 5+3,none⟩) (Nat.lt_of_lt_of_le hb2 hsr.out)).trans q3;have q4:=(hb2'.cell (p:=⟨b2,off2+k * 5+4,none⟩) (Nat.lt_of_lt_of_le hb2 hsr.out)).trans q4))
   go_wp2
   go_roundw
   case rel=> exact ⟨k+1,by omega,by go_num,HB.out.trans (hb2'.mono HB.out.size)⟩
   case measure=> simp [intOf];omega
  ·have e:k=l.length:=by omega
   subst e
   go_wp2
   go_ret
   exact ⟨rfl,hBr⟩
abbrev tab (v:Value):Value:=.agg #[v]
theorem block_cell1 {W:World} {B:Nat} {c:Array Value} {t:TypeId} (h:W.heap[B]? =some (.cells c t (0,0))) (j:Nat) (u:Value) (hj:c[j]? =some u):W.cell? ⟨B,j,none⟩=some u:=by
 simp [World.cell?,h,hj]
def RdT (C:Nat) (w:World) (v:Value) (l:List Sl):Prop:=∃vl,v=tab vl∧RdV layS C w vl l
def InTb (lo hi:Nat) (w:World) (v:Value) (l:List Sl):Prop:=∃vl,v=tab vl∧InS lo hi w vl l
theorem RdT.kept {C D:Nat} {w w':World} {v:Value} {m:List Sl} (h:RdT C w v m) (hb:Below D w w') (hc:C≤D):RdT C w' v m:=by
 obtain ⟨vl,e,h1⟩:=h
 exact ⟨vl,e,h1.kept hb hc⟩
theorem RdT.le {C D:Nat} {w:World} {v:Value} {m:List Sl} (h:RdT C w v m) (hc:C≤D):RdT D w v m:=by
 obtain ⟨vl,e,h1⟩:=h
 exact ⟨vl,e,h1.le hc⟩
theorem InTb.rd {lo hi:Nat} {w:World} {v:Value} {m:List Sl} (h:InTb lo hi w v m):RdT hi w v m:=by
 obtain ⟨vl,e,h1⟩:=h
 exact ⟨vl,e,InL.rd (L:=layS) h1⟩
theorem InTb.step {a b lo hi:Nat} {w w':World} {v:Value} {m:List Sl} (h:InTb a b w v m) (s:Stp lo hi w w') (hd:hi≤a∨b≤lo):InTb a b w' v m:=by
 obtain ⟨vl,e,h1⟩:=h
 exact ⟨vl,e,InRow.step h1 s hd⟩
theorem InTb.mono {a b a' b':Nat} {w:World} {v:Value} {m:List Sl} (h:InTb a b w v m) (h1:a'≤a) (h2:b≤b'):InTb a' b' w v m:=by
 obtain ⟨vl,e,h3⟩:=h
 exact ⟨vl,e,InRow.mono h3 h1 h2⟩
theorem InTb.row {lo hi:Nat} {w:World} {v:Value} {l:List Sl} (h:InTb lo hi w (tab v) l):InS lo hi w v l:=by
 obtain ⟨vl,e,h1⟩:=h
 injection e with e
 simp at e
 subst e
 exact h1
theorem cellsLawsT:Tryz.prog.cellsOf 31=1:=by kernel_rfl
theorem cellsLawsSlotS:Tryz.prog.cellsOf 29=1:=by kernel_rfl
theorem open_table_cells {H:Type} {enc:TypeId × Value→H} {W:World} {fuel:Nat} {cs:List Value} {x:DataW H × List MemPlace} (hl:cs.length=1) (h:DataW.trod enc Tryz.prog W 0 (fun _=> true) true fuel 31 cs=some x):
  ∃(o:Option Addr) (cap:Nat) (l:List Sl),cs=[.slice o l.length cap]∧l.length≤maxLen∧RdS W.heap.size W o l:=by
 match cs,hl with
 |[c0],_=>
  obtain ⟨y0,n,_,_,h0⟩:=trod_struct1 Tryz.underlying31 h
  simp [cellsLawsSlotS] at h0
  exact open_slots_cells h0
theorem szTable_n (o:Option Addr) (len c:Nat) (n:Int) (w:World) (hl:len≤maxLen) (h0:0≤n) (h1:n≤1048576):
  Calls Tryz.prog 85 #[tab (.slice o len c),.int .i64 n] w fun e w'=> e=.returned (.int .i64 (if n - len < 0 then -1 else n - len))∧Below w.heap.size w w':=by
 have hB:Below w.heap.size w w:=Below.refl _ _
 have hs:=fun W=> szSlotS_any o len c n W hl h0 h1
 by_cases h:n - len < 0
 ·rw [if_pos h] at hs
  rw [if_pos h]
  go_enter Tryz.func85,Tryz.ntmps85
  go_wp2_with (go_at_call 143;refine (hs _).mono ?_;rintro e w1 ⟨rfl,rfl⟩)
  go_ret
  exact ⟨rfl,by (repeat (first|with_reducible (first|exact hB|exact Below.refl _ _|refine Below.drew ?_|refine below_drewN ?_ _|refine Below.alloc ?_ ?_ _|refine Below.setCell ?_ ?_ _)|(focus (simp;first|done|omega))|omega))⟩
 ·rw [if_neg h] at hs
  rw [if_neg h]
  have h':0≤n - (len:Int):=by omega
  go_enter Tryz.func85,Tryz.ntmps85
  go_wp2_with (go_at_call 143;refine (hs _).mono ?_;rintro e w1 ⟨rfl,rfl⟩)
  go_ret
  exact ⟨rfl,by (repeat (first|with_reducible (first|exact hB|exact Below.refl _ _|refine Below.drew ?_|refine below_drewN ?_ _|refine Below.alloc ?_ ?_ _|refine Below.setCell ?_ ?_ _)|(focus (simp;first|done|omega))|omega))⟩
theorem toTable_sh (v:Value) (m:List Sl) (w:World) (hR:RdT w.heap.size w v m) (hf:m.length≤1048576):
  Calls Tryz.prog 95 #[v] w fun e w'=> ∃v',e=.returned v'∧InTb w.heap.size w'.heap.size w' v' m∧Below w.heap.size w w':=by
 obtain ⟨vl,rfl,o,c,rfl,hr⟩:=hR
 have hB:Below w.heap.size w w:=Below.refl _ _
 go_enter Tryz.func95,Tryz.ntmps95
 go_wp2_with (first|(go_at_call 155;refine (toSlotS_any o c m _ ((hr.kept (D:=w.heap.size) (by (repeat (first|with_reducible (first|exact hB|exact Below.refl _ _|refine Below.drew ?_|refine below_drewN ?_ _|refine Below.alloc ?_ ?_ _|refine Below.setCell ?_ ?_ _)|(focus (simp;first|done|omega))|omega))) (Nat.le_refl _)).le (by (try simp) <;> omega)) hf).mono ?_;rintro e w1a ⟨g,rfl,hown,hba⟩;obtain ⟨hca,hfa⟩:=bcell hba;have hz0a:w.heap.size < w1a.heap.size:=(by have hz:=hba.size;(try simp at hz);omega);have hz1a:w.heap.size+1 < w1a.heap.size:=(by have hz:=hba.size;(try simp at hz);omega);have hz2a:w.heap.size+1+1 < w1a.heap.size:=(by have hz:=hba.size;(try simp at hz);omega);have hB:Below w.heap.size w w1a:=(by refine Below.trans ?_ (hba.mono (by have hs:=hB.size;(try simp) <;> omega));(repeat (first|with_reducible (first|exact hB|exact Below.refl _ _|refine Below.drew ?_|refine below_drewN ?_ _|refine Below.alloc ?_ ?_ _|refine Below.setCell ?_ ?_ _)|(focus (simp;first|done|omega))|omega)))))
 have hown':ownS w1a (w.heap.size+1+1+1) (.slice (some ⟨g,0,none⟩) m.length m.length) m:=by simpa using hown
 clear hown hba
 refine bodyPost_ret (v:=tab (.slice (some ⟨g,0,none⟩) m.length m.length)) (by simp [results,Tryz.results95,go_sem,hca,hz0a,hz1a,hz2a]) rfl ⟨_,rfl,⟨_,rfl,InRow.of ?_⟩, ?_⟩
 ·refine own_mono (base:=w.heap.size+1+1+1) ?_ (by omega)
  repeat (refine ownsRow_setCell_below ?_ (by simp <;> omega) _)
  exact hown'
 ·(repeat (first|with_reducible (first|exact hB|exact Below.refl _ _|refine Below.drew ?_|refine below_drewN ?_ _|refine Below.alloc ?_ ?_ _|refine Below.setCell ?_ ?_ _)|(focus (simp;first|done|omega))|omega))
theorem eqTable_sh (v1 v2:Value) (m:List Sl) (w:World) (h1:RdT w.heap.size w v1 m) (h2:RdT w.heap.size w v2 m) (hl:m.length≤1048576):
  Calls Tryz.prog 107 #[v1,v2] w fun e w'=> e=.returned (.bool true)∧Below w.heap.size w w':=by
 obtain ⟨vl,rfl,o,c,rfl,r1⟩:=h1
 obtain ⟨vl2,rfl,o2,c2,rfl,r2⟩:=h2
 have hB:Below w.heap.size w w:=Below.refl _ _
 go_enter Tryz.func107,Tryz.ntmps107
 go_wp2_with (first|(go_at_call 167;refine (eqSlotS_same o o2 c c2 m _ ((r1.kept (D:=w.heap.size) (by (repeat (first|with_reducible (first|exact hB|exact Below.refl _ _|refine Below.drew ?_|refine below_drewN ?_ _|refine Below.alloc ?_ ?_ _|refine Below.setCell ?_ ?_ _)|(focus (simp;first|done|omega))|omega))) (Nat.le_refl _)).le (by (try simp) <;> omega)) ((r2.kept (D:=w.heap.size) (by (repeat (first|with_reducible (first|exact hB|exact Below.refl _ _|refine Below.drew ?_|refine below_drewN ?_ _|refine Below.alloc ?_ ?_ _|refine Below.setCell ?_ ?_ _)|(focus (simp;first|done|omega))|omega))) (Nat.le_refl _)).le (by (try simp) <;> omega)) hl).mono ?_;rintro e w1 ⟨rfl,hb⟩;obtain ⟨hc,hf⟩:=bcell hb;have hz0:w.heap.size < w1.heap.size:=(by have hz:=hb.size;(try simp at hz);omega);have hz1:w.heap.size+1 < w1.heap.size:=(by have hz:=hb.size;(try simp at hz);omega);have hB:Below w.heap.size w w1:=(by refine Below.trans ?_ (hb.mono (by have hs:=hB.size;(try simp) <;> omega));(repeat (first|with_reducible (first|exact hB|exact Below.refl _ _|refine Below.drew ?_|refine below_drewN ?_ _|refine Below.alloc ?_ ?_ _|refine Below.setCell ?_ ?_ _)|(focus (simp;first|done|omega))|omega)))))
 go_ret
 exact ⟨rfl,by (repeat (first|with_reducible (first|exact hB|exact Below.refl _ _|refine Below.drew ?_|refine below_drewN ?_ _|refine Below.alloc ?_ ?_ _|refine Below.setCell ?_ ?_ _)|(focus (simp;first|done|omega))|omega))⟩
theorem stp_set1 (W:World) (B j:Nat) (v:Value):Stp B (B+1) W (W.setCell ⟨B,j,none⟩ v):=by
 have h:=(Below.refl B W).setCell (p:=⟨B,j,none⟩) (Nat.le_refl _) v
 exact ⟨h.os,h.tape,h.output,h.size,fun k hk hn=> Below.heap_setCell W ⟨B,j,none⟩ v k (by simp;omega)⟩
theorem stp_set5v (W:World) (B:Nat) (a b c d e:Value):Stp B (B+1) W (((((W.setCell ⟨B,0,none⟩ a).setCell ⟨B,1,none⟩ b).setCell ⟨B,2,none⟩ c).setCell ⟨B,3,none⟩ d).setCell ⟨B,4,none⟩ e):=
 ((((stp_set1 W B 0 a).trans (stp_set1 _ B 1 b)).trans (stp_set1 _ B 2 c)).trans (stp_set1 _ B 3 d)).trans (stp_set1 _ B 4 e)
theorem below_set5v {w W:World} {C B:Nat} (h:Below C w W) (hC:C≤B) (a b c d e:Value):Below C w (((((W.setCell ⟨B,0,none⟩ a).setCell ⟨B,1,none⟩ b).setCell ⟨B,2,none⟩ c).setCell ⟨B,3,none⟩ d).setCell ⟨B,4,none⟩ e):=
 ((((h.setCell (p:=⟨B,0,none⟩) hC a).setCell (p:=⟨B,1,none⟩) hC b).setCell (p:=⟨B,2,none⟩) hC c).setCell (p:=⟨B,3,none⟩) hC d).setCell (p:=⟨B,4,none⟩) hC e
theorem set5v_size (W:World) (B:Nat) (a b c d e:Value):(((((W.setCell ⟨B,0,none⟩ a).setCell ⟨B,1,none⟩ b).setCell ⟨B,2,none⟩ c).setCell ⟨B,3,none⟩ d).setCell ⟨B,4,none⟩ e).heap.size=W.heap.size:=by simp
structure Am where
 id:Int
 lim:Int
 dr:Bool
 c:List Sl
 t:List Sl
abbrev agt (i l:Int) (d:Bool) (vc vt:Value):Value:=.agg #[.int .i64 i,.int .i64 l,.bool d,vc,vt]
def RdA (C:Nat) (w:World) (v:Value) (m:Am):Prop:=∃vc vt,v=agt m.id m.lim m.dr vc vt∧RdV layS C w vc m.c∧RdV layS C w vt m.t
def InA (lo hi:Nat) (w:World) (v:Value) (m:Am):Prop:=∃vc vt mid,v=agt m.id m.lim m.dr vc vt∧InS lo mid w vc m.c∧InS mid hi w vt m.t∧lo≤mid∧mid≤hi
theorem cellsInt1a:Tryz.prog.cellsOf 3=1:=by kernel_rfl
theorem cellsBool1a:Tryz.prog.cellsOf 4=1:=by kernel_rfl
structure Gt where
 a:Int
 p:Int
 bk:Int
 sq:Int
abbrev gt0:Gt:=⟨0,0,0,0⟩
def layGt:Lay Gt:=⟨4,fun s=> [.int .i64 s.a,.int .i64 s.p,.int .i64 s.bk,.int .i64 s.sq],gt0,fun _=> rfl⟩
abbrev gtv (s:Gt):Value:=.agg #[.int .i64 s.a,.int .i64 s.p,.int .i64 s.bk,.int .i64 s.sq]
theorem RdL.gt {C:Nat} {w:World} {b off:Nat} {l:List Gt} (h:∀i,i < l.length→∀j,j < layGt.k→w.cell? ⟨b,off+i * layGt.k+j,none⟩=(layGt.cs (l.getD i layGt.d))[j]?) (i:Nat) (hi:i < l.length):
  w.cell? ⟨b,off+i * 4,none⟩=some (.int .i64 (l.getD i gt0).a)∧w.cell? ⟨b,off+i * 4+1,none⟩=some (.int .i64 (l.getD i gt0).p)∧w.cell? ⟨b,off+i * 4+2,none⟩=some (.int .i64 (l.getD i gt0).bk)∧w.cell? ⟨b,off+i * 4+3,none⟩=some (.int .i64 (l.getD i gt0).sq):=
 ⟨h i hi 0 (by decide),h i hi 1 (by decide),h i hi 2 (by decide),h i hi 3 (by decide)⟩
theorem flat_set4 {α:Type} (L:Lay α) (hk:L.k=4) {v0 v1 v2 v3:Value} {a:α} (ha:L.cs a=[v0,v1,v2,v3]):∀(l:List α) (i:Nat),(((((l.flatMap L.cs).set (i * 4) v0).set (i * 4+1) v1).set (i * 4+2) v2).set (i * 4+3) v3)=(l.set i a).flatMap L.cs
 |[],i=> by simp
 |q::l,0=> by
  have hq:=(L.len q).trans hk
  match hc:L.cs q,hq with
  |[q0,q1,q2,q3],_=> simp [ha,hc]
 |q::l,i+1=> by
  have hq:=(L.len q).trans hk
  match hc:L.cs q,hq with
  |[q0,q1,q2,q3],_=>
   rw [show (i+1) * 4=i * 4+1+1+1+1 by omega]
   simp only [List.flatMap_cons,hc,List.cons_append,List.nil_append,List.set_cons_succ]
   rw [flat_set4 L hk ha l i]
theorem infoGt:(Tryz.prog.info? 98).map (fun i=> (i.zero,i.size,i.bytes))=some (some (.agg #[.int .i64 0,.int .i64 0,.int .i64 0,.int .i64 0]),4,32):=by kernel_rfl
theorem cellsIntG:Tryz.prog.cellsOf 3=1:=by kernel_rfl
theorem cellsLawsGot:Tryz.prog.cellsOf 174=4:=by kernel_rfl
theorem open_gots_cells {H:Type} {enc:TypeId × Value→H} {W:World} {fuel:Nat} {cs:List Value} {x:DataW H × List MemPlace} (h:DataW.trod enc Tryz.prog W 0 (fun _=> true) true fuel 36 cs=some x):
  ∃(o:Option Addr) (cap:Nat) (l:List Gt),cs=[.slice o l.length cap]∧l.length≤maxLen∧RdL layGt W.heap.size W o l:=by
 refine open_list layGt (by decide) Tryz.underlying36 cellsLawsGot ?_ h
 intro n cs y hl hy
 match cs,hl with
 |[c0,c1,c2,c3],_=>
  obtain ⟨y0,y1,y2,m,_,_,h0,h1,h2⟩:=Go.Deep.trod_struct3 Tryz.underlying174 hy
  simp [cellsIntG,cellsLawsFlow] at h0 h1 h2
  obtain ⟨z0,z1,m',_,_,k0,k1⟩:=trod_struct2 Tryz.underlying73 h0
  simp [cellsIntG] at k0 k1
  obtain ⟨a,e1,_,_⟩:=DataW.trod_int Tryz.underlying3 k0
  obtain ⟨p,e2,_,_⟩:=DataW.trod_int Tryz.underlying3 k1
  obtain ⟨v,e3,_,_⟩:=DataW.trod_int Tryz.underlying3 h1
  obtain ⟨t,e4,_,_⟩:=DataW.trod_int Tryz.underlying3 h2
  simp at e1 e2 e3 e4
  subst e1 e2 e3 e4
  exact ⟨⟨a,p,v,t⟩,rfl⟩
theorem toGot_any (s:Gt) (w:World):
  Calls Tryz.prog 98 #[gtv s] w fun e w'=> e=.returned (gtv s)∧Below w.heap.size w w':=by
 have hB:Below w.heap.size w w:=Below.refl _ _
 go_enter Tryz.func98,Tryz.ntmps98
 go_wp2_with (first|(go_at_call 30;refine (toFlow_any s.a s.p _).mono ?_;rintro e w1a ⟨rfl,hba⟩;obtain ⟨hca,hfa⟩:=bcell hba;have hz0a:w.heap.size < w1a.heap.size:=(by have hz:=hba.size;(try simp at hz);omega);have hz1a:w.heap.size+1 < w1a.heap.size:=(by have hz:=hba.size;(try simp at hz);omega);have hB:Below w.heap.size w w1a:=(by refine Below.trans ?_ (hba.mono (by have hs:=hB.size;(try simp) <;> omega));(repeat (first|with_reducible (first|exact hB|exact Below.refl _ _|refine Below.drew ?_|refine below_drewN ?_ _|refine Below.alloc ?_ ?_ _|refine Below.setCell ?_ ?_ _)|(focus (simp;first|done|omega))|omega)))))
 refine bodyPost_ret (v:=gtv s) (by simp [results,Tryz.results98,go_sem,hca,hz0a,hz1a]) rfl ⟨rfl, ?_⟩
 (repeat (first|with_reducible (first|exact hB|exact Below.refl _ _|refine Below.drew ?_|refine below_drewN ?_ _|refine Below.alloc ?_ ?_ _|refine Below.setCell ?_ ?_ _)|(focus (simp;first|done|omega))|omega))
theorem eqGot_same (s:Gt) (w:World):
  Calls Tryz.prog 110 #[gtv s,gtv s] w fun e w'=> e=.returned (.bool true)∧Below w.heap.size w w':=by
 have hB:Below w.heap.size w w:=Below.refl _ _
 go_enter Tryz.func110,Tryz.ntmps110
 go_wp2_with (first|(go_at_call 169;refine (eqFlow_same s.a s.p _).mono ?_;rintro e w1a ⟨rfl,hba⟩;obtain ⟨hca,hfa⟩:=bcell hba;have hz0a:w.heap.size < w1a.heap.size:=(by have hz:=hba.size;(try simp at hz);omega);have hz1a:w.heap.size+1 < w1a.heap.size:=(by have hz:=hba.size;(try simp at hz);omega);have hB:Below w.heap.size w w1a:=(by refine Below.trans ?_ (hba.mono (by have hs:=hB.size;(try simp) <;> omega));(repeat (first|with_reducible (first|exact hB|exact Below.refl _ _|refine Below.drew ?_|refine below_drewN ?_ _|refine Below.alloc ?_ ?_ _|refine Below.setCell ?_ ?_ _)|(focus (simp;first|done|omega))|omega)))))
 all_goals go_ret
 all_goals exact ⟨rfl,by (repeat (first|with_reducible (first|exact hB|exact Below.refl _ _|refine Below.drew ?_|refine below_drewN ?_ _|refine Below.alloc ?_ ?_ _|refine Below.setCell ?_ ?_ _)|(focus (simp;first|done|omega))|omega))⟩
theorem szGotS_any (o:Option Addr) (len cap:Nat) (n:Int) (w:World) (hl:len≤maxLen) (h0:0≤n) (h1:n≤1048576):
  Calls Tryz.prog 40 #[.slice o len cap,.int .i64 n] w fun e w'=> e=.returned (.int .i64 (if n - len < 0 then -1 else n - len))∧w=w':=by
 unfold maxLen at hl
 by_cases h:n - len < 0
 ·rw [if_pos h]
  go_enter Tryz.func40,Tryz.ntmps40
  go_wp2
  go_ret
  exact ⟨rfl,rfl⟩
 ·rw [if_neg h]
  go_enter Tryz.func40,Tryz.ntmps40
  go_wp2
  go_ret
  exact ⟨rfl,rfl⟩
theorem stored4 {e:TypeId} {w wr:World} {base B g c n:Nat} {l:List Gt} {k:Nat} (s:Gt) (hg:B≤g) (hown:wr.ownsRow base e 4 (.slice (some ⟨g,0,none⟩) n c) n (l.flatMap layGt.cs)) (hB:Below B w wr):
  ((((wr.setCell ⟨g,k * 4,none⟩ (.int .i64 s.a)).setCell ⟨g,k * 4+1,none⟩ (.int .i64 s.p)).setCell ⟨g,k * 4+2,none⟩ (.int .i64 s.bk)).setCell ⟨g,k * 4+3,none⟩ (.int .i64 s.sq)).ownsRow base e 4 (.slice (some ⟨g,0,none⟩) n c) n ((l.set k s).flatMap layGt.cs)∧Below B w ((((wr.setCell ⟨g,k * 4,none⟩ (.int .i64 s.a)).setCell ⟨g,k * 4+1,none⟩ (.int .i64 s.p)).setCell ⟨g,k * 4+2,none⟩ (.int .i64 s.bk)).setCell ⟨g,k * 4+3,none⟩ (.int .i64 s.sq)):=by
 have h:=((((hown.stored (k * 4) (.int .i64 s.a)).1.stored (k * 4+1) (.int .i64 s.p)).1.stored (k * 4+2) (.int .i64 s.bk)).1.stored (k * 4+3) (.int .i64 s.sq)).1
 rw [flat_set4 layGt rfl (a:=s) rfl] at h
 exact ⟨h,((((hB.setCell (p:=⟨g,k * 4,none⟩) hg _).setCell (p:=⟨g,k * 4+1,none⟩) hg _).setCell (p:=⟨g,k * 4+2,none⟩) hg _).setCell (p:=⟨g,k * 4+3,none⟩) hg _)⟩
theorem toGotS_any (o:Option Addr) (cap:Nat) (l:List Gt) (w:World) (hR:RdL layGt w.heap.size w o l) (hlen:l.length≤1048576):
  Calls Tryz.prog 48 #[.slice o l.length cap] w fun e w'=> ∃g,e=.returned (.slice (some ⟨g,0,none⟩) l.length l.length)∧ownL layGt 98 w' w.heap.size (.slice (some ⟨g,0,none⟩) l.length l.length) l∧Below w.heap.size w w':=by
 obtain ⟨i0,hi,hz0,hz1,hz2⟩:=info_parts infoGt
 have hB:Below w.heap.size w w:=Below.refl _ _
 go_enter Tryz.func48,Tryz.ntmps48
 go_wp2_with (at_make;refine wpList_make_full _ rfl _ _ 54 rfl w.heap.size 98 i0 (gtv gt0) 4 Tryz.underlying54 hi hz0 hz1 _ _ _ _ l.length rfl rfl rfl rfl ?b2 ?b3 ?b4 ?_)
 case b2=> rw [hz2];omega
 case b3=> unfold maxLen;omega
 case b4=> simp
 intro w1 hown hgrow
 have hB1:Below w.heap.size w w1:=hB.grown hgrow (Nat.le_refl _) (fun k h=> by cases h)
 have hown1:w1.ownsRow w.heap.size 98 4 (.slice (some ⟨w.heap.size,0,none⟩) l.length l.length) l.length ((fillL layGt l 0).flatMap layGt.cs):=by
  rw [fillL_zero,←made_flat layGt (gtv gt0) rfl];exact hown
 clear hown hgrow hB
 go_wp2
 go_loopw [4] (fun i wr=> ∃k:Nat,k≤l.length∧i=.int .i64 k∧wr.ownsRow w.heap.size 98 4 (.slice (some ⟨w.heap.size,0,none⟩) l.length l.length) l.length ((fillL layGt l k).flatMap layGt.cs)∧Below w.heap.size w wr)
  (fun i _=> l.length - (intOf i).toNat)
 case atStart=> exact ⟨0,Nat.zero_le _,rfl,hown1,hB1⟩
 case round=>
  obtain ⟨k,hk,rfl,hown,hBr⟩:=hrel
  by_cases hlt:k < l.length
  ·rcases hR with hR|⟨b,off,rfl,hbl,hcell⟩
   ·subst hR;simp at hlt
   obtain ⟨s,hxy⟩:∃s,l.getD k gt0=s:=⟨_,rfl⟩
   have hcx:=RdL.gt (C:=w.heap.size) hcell k hlt
   rw [hxy] at hcx
   have hc0:wr.cell? ⟨b,off+k * 4,none⟩=some (.int .i64 s.a):=(hBr.cell (p:=⟨b,off+k * 4,none⟩) hbl).trans hcx.1
   have hc1:wr.cell? ⟨b,off+k * 4+1,none⟩=some (.int .i64 s.p):=(hBr.cell (p:=⟨b,off+k * 4+1,none⟩) hbl).trans hcx.2.1
   have hc2:wr.cell? ⟨b,off+k * 4+2,none⟩=some (.int .i64 s.bk):=(hBr.cell (p:=⟨b,off+k * 4+2,none⟩) hbl).trans hcx.2.2.1
   have hc3:wr.cell? ⟨b,off+k * 4+3,none⟩=some (.int .i64 s.sq):=(hBr.cell (p:=⟨b,off+k * 4+3,none⟩) hbl).trans hcx.2.2.2
   have HW:=hide (hlt)
   clear hcell hcx
   go_wp2_with fail
   refine (toGot_any s _).mono ?_
   rintro e w2 ⟨rfl,hb2⟩
   have hB2:Below w.heap.size w w2:=hBr.trans (hb2.mono hBr.size)
   have hown2:=own_kept hown hb2
   have hln:((fillL layGt l k).flatMap layGt.cs).length=l.length * 4:=by rw [flat_length,fillL_length layGt l k hk];rfl
   obtain ⟨u0,hu0⟩:∃u,w2.cell? ⟨w.heap.size,k * 4,none⟩=some u:=⟨_,(hown2.cellAt (k * 4) (by omega)).trans (List.getElem?_eq_getElem (by omega))⟩
   have hf0:=hown2.frozenAt (k * 4)
   obtain ⟨u1,hu1⟩:∃u,w2.cell? ⟨w.heap.size,k * 4+1,none⟩=some u:=⟨_,(hown2.cellAt (k * 4+1) (by omega)).trans (List.getElem?_eq_getElem (by omega))⟩
   have hf1:=hown2.frozenAt (k * 4+1)
   obtain ⟨u2,hu2⟩:∃u,w2.cell? ⟨w.heap.size,k * 4+2,none⟩=some u:=⟨_,(hown2.cellAt (k * 4+2) (by omega)).trans (List.getElem?_eq_getElem (by omega))⟩
   have hf2:=hown2.frozenAt (k * 4+2)
   obtain ⟨u3,hu3⟩:∃u,w2.cell? ⟨w.heap.size,k * 4+3,none⟩=some u:=⟨_,(hown2.cellAt (k * 4+3) (by omega)).trans (List.getElem?_eq_getElem (by omega))⟩
   have hf3:=hown2.frozenAt (k * 4+3)
   have HR:=hide (stored4 (k:=k) s (Nat.le_refl _) hown2 hB2)
   have HX:=hide (show (fillL layGt l k).set k s=fillL layGt l (k+1) by rw [←hxy];exact fillL_set layGt l k hlt)
   clear hxy hown hBr hB1 hown1 hown2 hc0 hc1 hc2 hc3 hb2 hln
   go_wp2
   go_roundw
   case rel=> exact ⟨k+1,by omega,by go_num,(by have:=HR.out.1;rw [HX.out] at this;exact this),HR.out.2⟩
   case measure=> simp [intOf];omega
  ·have e:k=l.length:=by omega
   subst e
   rw [fillL_all] at hown
   go_wp2
   go_ret
   exact ⟨w.heap.size,rfl,hown,hBr⟩
theorem eqGotS_same (o1 o2:Option Addr) (c1 c2:Nat) (l:List Gt) (w:World) (h1:RdL layGt w.heap.size w o1 l) (h2:RdL layGt w.heap.size w o2 l) (hl:l.length≤1048576):
  Calls Tryz.prog 53 #[.slice o1 l.length c1,.slice o2 l.length c2] w fun e w'=> e=.returned (.bool true)∧Below w.heap.size w w':=by
 go_enter Tryz.func53,Tryz.ntmps53
 go_wp2
 go_loopw [5] (fun i wr=> ∃k:Nat,k≤l.length∧i=.int .i64 k∧Below w.heap.size w wr)
  (fun i _=> l.length - (intOf i).toNat)
 case atStart=> exact ⟨0,Nat.zero_le _,rfl,Below.refl _ _⟩
 case round=>
  obtain ⟨k,hk,rfl,hBr⟩:=hrel
  by_cases hlt:k < l.length
  ·rcases h1 with h1|⟨b1,off1,rfl,hb1,hcell1⟩
   ·subst h1;simp at hlt
   rcases h2 with h2|⟨b2,off2,rfl,hb2,hcell2⟩
   ·subst h2;simp at hlt
   obtain ⟨s,hxy⟩:∃s,l.getD k gt0=s:=⟨_,rfl⟩
   have hcx1:=RdL.gt (C:=w.heap.size) hcell1 k hlt
   have hcx2:=RdL.gt (C:=w.heap.size) hcell2 k hlt
   rw [hxy] at hcx1 hcx2
   have p0:wr.cell? ⟨b1,off1+k * 4,none⟩=some (.int .i64 s.a):=(hBr.cell (p:=⟨b1,off1+k * 4,none⟩) hb1).trans hcx1.1
   have p1:wr.cell? ⟨b1,off1+k * 4+1,none⟩=some (.int .i64 s.p):=(hBr.cell (p:=⟨b1,off1+k * 4+1,none⟩) hb1).trans hcx1.2.1
   have p2:wr.cell? ⟨b1,off1+k * 4+2,none⟩=some (.int .i64 s.bk):=(hBr.cell (p:=⟨b1,off1+k * 4+2,none⟩) hb1).trans hcx1.2.2.1
   have p3:wr.cell? ⟨b1,off1+k * 4+3,none⟩=some (.int .i64 s.sq):=(hBr.cell (p:=⟨b1,off1+k * 4+3,none⟩) hb1).trans hcx1.2.2.2
   have q0:wr.cell? ⟨b2,off2+k * 4,none⟩=some (.int .i64 s.a):=(hBr.cell (p:=⟨b2,off2+k * 4,none⟩) hb2).trans hcx2.1
   have q1:wr.cell? ⟨b2,off2+k * 4+1,none⟩=some (.int .i64 s.p):=(hBr.cell (p:=⟨b2,off2+k * 4+1,none⟩) hb2).trans hcx2.2.1
   have q2:wr.cell? ⟨b2,off2+k * 4+2,none⟩=some (.int .i64 s.bk):=(hBr.cell (p:=⟨b2,off2+k * 4+2,none⟩) hb2).trans hcx2.2.2.1
   have q3:wr.cell? ⟨b2,off2+k * 4+3,none⟩=some (.int .i64 s.sq):=(hBr.cell (p:=⟨b2,off2+k * 4+3,none⟩) hb2).trans hcx2.2.2.2
   have HB:=hide hBr
   have hsr:=hide hBr.size
   clear hcell1 hcell2 hBr hcx1 hcx2 hxy
   have i1:(k:Int) < (l.length:Int):=by omega
   go_wp2
   go_region_held3 (fun w'=> w'.cell? ⟨b1,off1+k * 4,none⟩=some (.int .i64 s.a)∧w'.cell? ⟨b1,off1+k * 4+1,none⟩=some (.int .i64 s.p)∧w'.cell? ⟨b1,off1+k * 4+2,none⟩=some (.int .i64 s.bk)∧w'.cell? ⟨b1,off1+k * 4+3,none⟩=some (.int .i64 s.sq)∧w'.cell? ⟨b2,off2+k * 4,none⟩=some (.int .i64 s.a)∧w'.cell? ⟨b2,off2+k * 4+1,none⟩=some (.int .i64 s.p)∧w'.cell? ⟨b2,off2+k * 4+2,none⟩=some (.int .i64 s.bk)∧w'.cell? ⟨b2,off2+k * 4+3,none⟩=some (.int .i64 s.sq)) (first|exact ⟨p0,p1,p2,p3,q0,q1,q2,q3⟩) (first|(go_at_call 110;refine (eqGot_same s _).mono ?_;rintro e w2 ⟨rfl,hb2'⟩;replace hb2':Below wr.heap.size wr w2:=(Below.drew (Below.refl _ _)).trans hb2';have p0:=(hb2'.cell (p:=⟨b1,off1+k * 4,none⟩) (Nat.lt_of_lt_of_le hb1 hsr.out)).trans p0;have p1:=(hb2'.cell (p:=⟨b1,off1+k * 4+1,none⟩) (Nat.lt_of_lt_of_le hb1 hsr.out)).trans p1;have p2:=(hb2'.cell (p:=⟨b1,off1+k * 4+2,none⟩) (Nat.lt_of_lt_of_le hb1 hsr.out)).trans p2;have p3:=(hb2'.cell (p:=⟨b1,off1+k * 4+3,none⟩) (Nat.lt_of_lt_of_le hb1 hsr.out)).trans p3;have q0:=(hb2'.cell (p:=⟨b2,off2+k * 4,none⟩) (Nat.lt_of_lt_of_le hb2 hsr.out)).trans q0;have q1:=(hb2'.cell (p:=⟨b2,off2+k * 4+1,none⟩) (Nat.lt_of_lt_of_le hb2 hsr.out)).trans q1;have q2:=(hb2'.cell (p:=⟨b2,off2+k * 4+2,none⟩) (Nat.lt_of_lt_of_le hb2 hsr.out)).trans q2;have q3:=(hb2'.cell (p:=⟨b2,off2+k * 4+3,none⟩) (Nat.lt_of_lt_of_le hb2 hsr.out)).trans q3))
   go_wp2
   go_roundw
   case rel=> exact ⟨k+1,by omega,by go_num,HB.out.trans (hb2'.mono HB.out.size)⟩
   case measure=> simp [intOf];omega
  ·have e:k=l.length:=by omega
   subst e
   go_wp2
   go_ret
   exact ⟨rfl,hBr⟩
def homeN (n:Nat) (a p:Int):Nat:=((a * 31+p) % (n:Int)).toNat
theorem homeN_lt {n:Nat} (hn:0 < n) (a p:Int):homeN n a p < n:=by
 unfold homeN
 have h1:=Int.emod_nonneg (a * 31+p) (show (n:Int)≠0 by omega)
 have h2:=Int.emod_lt_of_pos (a * 31+p) (show (0:Int) < n by omega)
 omega
theorem homeN_cast {n:Nat} (hn:0 < n) (a p:Int):((homeN n a p:Nat):Int)=(a * 31+p) % (n:Int):=by
 unfold homeN
 have h1:=Int.emod_nonneg (a * 31+p) (show (n:Int)≠0 by omega)
 omega
theorem homeN_tmod {n:Nat} (hn:0 < n) {a p:Int} (h:flowOkB a p=true):(a * 31+p).tmod (n:Int)=((homeN n a p:Nat):Int):=by
 rw [homeN_cast hn,Int.tmod_eq_emod_of_nonneg]
 have:=flowOkB_iff.1 h
 omega
theorem homeN_tmod' {n:Nat} (hn:0 < n) {a p:Int} (h:flowOkB a p=true):(31 * a+p).tmod (n:Int)=((homeN n a p:Nat):Int):=by
 rw [Int.mul_comm];exact homeN_tmod hn h
theorem next_tmod (n i:Nat):((i:Int)+1).tmod (n:Int)=(((i+1) % n:Nat):Int):=by
 rw [Int.tmod_eq_emod_of_nonneg (by omega)];simp
def farN (n i k:Nat):Nat:=(k+n - i) % n
theorem next_lt {n:Nat} (hn:0 < n) (i:Nat):(i+1) % n < n:=Nat.mod_lt _ hn
def wayGo (l:List Sl) (a p:Int):Nat→Nat→Int × Bool
 |0,_=> (-1,false)
 |f+1,i=> if (l.getD i sl0).u=true then (if (l.getD i sl0).a=a∧(l.getD i sl0).p=p then ((i:Int),true) else wayGo l a p f ((i+1) % l.length)) else ((i:Int),false)
def endL (l:List Sl) (a p:Int):Int × Bool:=wayGo l a p l.length (homeN l.length a p)
theorem wayGo_free {l:List Sl} {a p:Int} {f i:Nat} (h:(l.getD i sl0).u=false):wayGo l a p (f+1) i=((i:Int),false):=by simp only [wayGo,h];simp
theorem wayGo_own {l:List Sl} {a p:Int} {f i:Nat} (h:(l.getD i sl0).u=true) (h1:(l.getD i sl0).a=a) (h2:(l.getD i sl0).p=p):wayGo l a p (f+1) i=((i:Int),true):=by simp only [wayGo,h,h1,h2];simp
theorem wayGo_next {l:List Sl} {a p:Int} {f i:Nat} (h:(l.getD i sl0).u=true) (h1:¬((l.getD i sl0).a=a∧(l.getD i sl0).p=p)):wayGo l a p (f+1) i=wayGo l a p f ((i+1) % l.length):=by simp only [wayGo,h,h1];simp
theorem wayGo_cases (l:List Sl) (hn:0 < l.length) (a p:Int):∀(f i:Nat),i < l.length→wayGo l a p f i=(-1,false)∨∃k,k < l.length∧((wayGo l a p f i=((k:Int),false)∧(l.getD k sl0).u=false)∨(wayGo l a p f i=((k:Int),true)∧(l.getD k sl0).u=true∧(l.getD k sl0).a=a∧(l.getD k sl0).p=p))
 |0,i,_=> .inl rfl
 |f+1,i,hi=> by
  cases hu:(l.getD i sl0).u with
  |false=> exact .inr ⟨i,hi,.inl ⟨wayGo_free hu,hu⟩⟩
  |true=>
   by_cases h:(l.getD i sl0).a=a∧(l.getD i sl0).p=p
   ·exact .inr ⟨i,hi,.inr ⟨wayGo_own hu h.1 h.2,hu,h.1,h.2⟩⟩
   ·rw [wayGo_next hu h]
    exact wayGo_cases l hn a p f _ (next_lt hn i)
theorem endL_cases (l:List Sl) (hn:0 < l.length) (a p:Int):endL l a p=(-1,false)∨∃k,k < l.length∧((endL l a p=((k:Int),false)∧(l.getD k sl0).u=false)∨(endL l a p=((k:Int),true)∧(l.getD k sl0).u=true∧(l.getD k sl0).a=a∧(l.getD k sl0).p=p)):=
 wayGo_cases l hn a p _ _ (homeN_lt hn a p)
def slotB (s:Sl):Bool:=if s.u=true then flowOkB s.a s.p && decide (0≤s.v) && decide (s.v≤100000) && decide (0≤s.t) && decide (s.t≤200000) else decide (s.a=0) && decide (s.p=0) && decide (s.v=0) && decide (s.t=0)
theorem slotB_used {s:Sl} (h:s.u=true):slotB s=true↔flowOkB s.a s.p=true∧0≤s.v∧s.v≤100000∧0≤s.t∧s.t≤200000:=by simp [slotB,h,and_assoc]
theorem slotB_free {s:Sl} (h:s.u=false):slotB s=true↔s=sl0:=by
 obtain ⟨u,a,p,v,t⟩:=s
 simp at h;subst h
 simp [slotB,and_assoc]
def wayB (l:List Sl) (i:Nat):Bool:= !(l.getD i sl0).u||(endL l (l.getD i sl0).a (l.getD i sl0).p==((i:Int),true))
def tabAt (l:List Sl) (i:Nat):Bool:=slotB (l.getD i sl0) && wayB l i
def tableOkB (l:List Sl):Bool:=decide (1≤l.length) && decide (l.length≤16) && (List.range l.length).all (tabAt l)
theorem tableOkB_iff {l:List Sl}:tableOkB l=true↔1≤l.length∧l.length≤16∧∀i,i < l.length→tabAt l i=true:=by simp [tableOkB,and_assoc]
theorem tableOkB_yes {l:List Sl} (h1:1≤l.length) (h2:l.length≤16) (h:∀i,i < l.length→tabAt l i=true):true=tableOkB l:=(tableOkB_iff.2 ⟨h1,h2,h⟩).symm
theorem tableOkB_no {l:List Sl} {i:Nat} (hi:i < l.length) (h:tabAt l i=false):false=tableOkB l:=by
 cases hb:tableOkB l with
 |false=> rfl
 |true=> rw [(tableOkB_iff.1 hb).2.2 i hi] at h;cases h
theorem tableOkB_len {l:List Sl} (h:¬(1≤l.length∧l.length≤16)):false=tableOkB l:=by
 cases hb:tableOkB l with
 |false=> rfl
 |true=> exact absurd ⟨(tableOkB_iff.1 hb).1,(tableOkB_iff.1 hb).2.1⟩ h
theorem tabAt_slot {l:List Sl} {i:Nat} (h:slotB (l.getD i sl0)=false):tabAt l i=false:=by unfold tabAt;rw [h];rfl
theorem tabAt_way {l:List Sl} {i:Nat} (hu:(l.getD i sl0).u=true) (h:endL l (l.getD i sl0).a (l.getD i sl0).p≠((i:Int),true)):tabAt l i=false:=by unfold tabAt wayB;rw [hu,beq_eq_false_iff_ne.2 h];cases slotB (l.getD i sl0) <;> rfl
theorem tabAt_free {l:List Sl} {i:Nat} (hu:(l.getD i sl0).u=false) (h:slotB (l.getD i sl0)=true):tabAt l i=true:=by unfold tabAt wayB;rw [hu,h];rfl
theorem tabAt_used {l:List Sl} {i:Nat} (h:slotB (l.getD i sl0)=true) (h':endL l (l.getD i sl0).a (l.getD i sl0).p=((i:Int),true)):tabAt l i=true:=by unfold tabAt wayB;rw [h,h'];cases (l.getD i sl0).u <;> simp
def tabTo (l:List Sl) (k:Nat):Prop:=∀i,i < k→tabAt l i=true
theorem tabTo_succ {l:List Sl} {k:Nat} (h:tabTo l k) (hk:tabAt l k=true):tabTo l (k+1):=fun i hi=> by
 rcases Nat.lt_succ_iff_lt_or_eq.1 hi with h1|h1
 ·exact h i h1
 ·rw [h1];exact hk
def slotTo (l:List Sl) (k:Nat):Prop:=∀i,i < k→slotB (l.getD i sl0)=true
theorem slotTo_succ {l:List Sl} {k:Nat} (h:slotTo l k) (hk:slotB (l.getD k sl0)=true):slotTo l (k+1):=fun i hi=> by
 rcases Nat.lt_succ_iff_lt_or_eq.1 hi with h1|h1
 ·exact h i h1
 ·rw [h1];exact hk
def wt (n:Nat) (l:List Sl) (j:Nat):Nat:=if (l.getD j sl0).u=true then farN n (homeN n (l.getD j sl0).a (l.getD j sl0).p) j else 0
theorem mod_small {a n:Nat} (h:a < n):a % n=a:=Nat.mod_eq_of_lt h
abbrev flow (a p:Int):Value:=.agg #[.int .i64 a,.int .i64 p]
theorem l5home_any (n:Nat) (a p:Int) (w:World) (hn:0 < n) (hl:n≤1048576) (hf:flowOkB a p=true):
  Calls Tryz.prog 192 #[.int .i64 n,flow a p] w fun e w'=> e=.returned (.int .i64 (homeN n a p))∧Below w.heap.size w w':=by
 have hB:Below w.heap.size w w:=Below.refl _ _
 have hh:=homeN_tmod hn hf
 have hlt:=homeN_lt hn a p
 have h0:=flowOkB_iff.1 hf
 have hne:¬((n:Int)=0):=by omega
 have hne':((n:Int)==0)=false:=by simpa using hne
 obtain ⟨h1,h2,h3,h4⟩:=h0
 go_enter Tryz.func192,Tryz.ntmps192
 go_wp2
 go_ret
 exact ⟨rfl,by (repeat (first|with_reducible (first|exact hB|exact Below.refl _ _|refine Below.drew ?_|refine below_drewN ?_ _|refine Below.alloc ?_ ?_ _|refine Below.setCell ?_ ?_ _)|(focus (simp;first|done|omega))|omega))⟩
theorem l5at_any (o:Option Addr) (c:Nat) (l:List Sl) (a p:Int) (w:World) (hR:RdS w.heap.size w o l) (hn:0 < l.length) (hl:l.length≤1048576) (hf:flowOkB a p=true):
  Calls Tryz.prog 148 #[tab (.slice o l.length c),flow a p] w fun e w'=> e=.returned (.tuple #[.int .i64 (endL l a p).1,.bool (endL l a p).2])∧Below w.heap.size w w':=by
 rcases hR with hR|⟨b,off,rfl,hbl,hcell⟩
 ·subst hR;simp at hn
 have hB:Below w.heap.size w w:=Below.refl _ _
 have HC:=hide hcell
 clear hcell
 go_enter Tryz.func148,Tryz.ntmps148
 go_wp2_with fail;go_at_call 192;refine (l5home_any l.length a p _ hn hl hf).mono ?_;rintro e w1a ⟨rfl,hba⟩;obtain ⟨hca,hfa⟩:=bcell hba;have hz0a:w.heap.size < w1a.heap.size:=(by have hz:=hba.size;(try simp at hz);omega);have hz1a:w.heap.size+1 < w1a.heap.size:=(by have hz:=hba.size;(try simp at hz);omega);have hB:Below w.heap.size w w1a:=(by refine Below.trans ?_ (hba.mono (by have hs:=hB.size;(try simp) <;> omega));(repeat (first|with_reducible (first|exact hB|exact Below.refl _ _|refine Below.drew ?_|refine below_drewN ?_ _|refine Below.alloc ?_ ?_ _|refine Below.setCell ?_ ?_ _)|(focus (simp;first|done|omega))|omega)))
 have hc0:w1a.cell? ⟨w.heap.size,0,none⟩=some (.slice (some ⟨b,off,none⟩) l.length c):=by rw [hca _ _ (by (try simp) <;> omega)];simp [go_sem]
 have hc1:w1a.cell? ⟨w.heap.size+1,0,none⟩=some (.int .i64 a):=by rw [hca _ _ (by (try simp) <;> omega)];simp [go_sem]
 have hc2:w1a.cell? ⟨w.heap.size+1,1,none⟩=some (.int .i64 p):=by rw [hca _ _ (by (try simp) <;> omega)];simp [go_sem]
 have HB:=hide hB
 clear hB hca hfa hba
 have hh:=homeN_lt hn a p
 have HE:=hide (show wayGo l a p l.length (homeN l.length a p)=endL l a p from rfl)
 generalize homeN l.length a p=h at *
 go_wp2
 go_loopw [7,8] (fun i k wr=> ∃(i' k':Nat),k'≤l.length∧i' < l.length∧i=.int .i64 i'∧k=.int .i64 k'∧Hid (wayGo l a p (l.length - k') i'=endL l a p)∧Hid (Below w1a.heap.size w1a wr))
  (fun _ k _=> l.length - (intOf k).toNat)
 case atStart=> exact ⟨h,0,Nat.zero_le _,hh,rfl,rfl,HE,Below.refl _ _⟩
 case round=>
  obtain ⟨i,k,hk,hi,rfl,rfl,hE,HBr⟩:=hrel
  have d0:wr.cell? ⟨w.heap.size,0,none⟩=some (.slice (some ⟨b,off,none⟩) l.length c):=(HBr.out.cell (p:=⟨w.heap.size,0,none⟩) hz0a).trans hc0
  have d1:wr.cell? ⟨w.heap.size+1,0,none⟩=some (.int .i64 a):=(HBr.out.cell (p:=⟨w.heap.size+1,0,none⟩) hz1a).trans hc1
  have d2:wr.cell? ⟨w.heap.size+1,1,none⟩=some (.int .i64 p):=(HBr.out.cell (p:=⟨w.heap.size+1,1,none⟩) hz1a).trans hc2
  have HB2:=hide (HB.out.trans (HBr.out.mono HB.out.size))
  by_cases hlt:k < l.length
  ·obtain ⟨s,hxy⟩:∃s,l.getD i sl0=s:=⟨_,rfl⟩
   have hcx:=RdL.slot (C:=w.heap.size) HC.out i hi
   rw [hxy] at hcx
   have e0:wr.cell? ⟨b,off+i * 5,none⟩=some (.bool s.u):=(HB2.out.cell (p:=⟨b,off+i * 5,none⟩) hbl).trans hcx.1
   have e1:wr.cell? ⟨b,off+i * 5+1,none⟩=some (.int .i64 s.a):=(HB2.out.cell (p:=⟨b,off+i * 5+1,none⟩) hbl).trans hcx.2.1
   have e2:wr.cell? ⟨b,off+i * 5+2,none⟩=some (.int .i64 s.p):=(HB2.out.cell (p:=⟨b,off+i * 5+2,none⟩) hbl).trans hcx.2.2.1
   have hi':(i:Int) < (l.length:Int):=by omega
   have hk':(k:Int) < (l.length:Int):=by omega
   have hne':((l.length:Int)==0)=false:=beq_eq_false_iff_ne.2 (by omega)
   have hm:=next_tmod l.length i
   have ek:l.length - k=(l.length - (k+1))+1:=by omega
   rw [ek] at hE
   obtain ⟨su,sa,sp,sv,st⟩:=s
   simp only at e0 e1 e2
   clear hcx hc0 hc1 hc2 HC
   cases su with
   |false=>
    have HF:=hide (hE.out.symm.trans (wayGo_free (by rw [hxy])))
    clear hE hxy ek
    go_wp2
    go_ret2
    exact ⟨by rw [HF.out];rfl,HB2.out⟩
   |true=>
    by_cases hq:sa=a∧sp=p
    ·have HF:=hide (hE.out.symm.trans (wayGo_own (by rw [hxy]) (by rw [hxy];exact hq.1) (by rw [hxy];exact hq.2)))
     obtain ⟨rfl,rfl⟩:=hq
     clear hE hxy ek
     go_wp2
     go_region
     go_wp2
     go_ret2
     exact ⟨by rw [HF.out];rfl,Below.drew HB2.out⟩
    ·have HF:=hide (hE.out.symm.trans (wayGo_next (by rw [hxy]) (by rw [hxy];exact hq))).symm
     clear hE hxy ek
     have hx:(k+1≤l.length):=by omega
     by_cases hq1:sa=a
     ·subst hq1
      have hq2:¬sp=p:=fun e=> hq ⟨rfl,e⟩
      have hq3:(sp==p)=false:=beq_eq_false_iff_ne.2 hq2
      clear hq
      go_wp2
      go_region
      go_wp2
      go_roundw
      case rel=> exact ⟨(i+1) % l.length,k+1,hx,next_lt hn i,by go_num,by go_num,HF,Below.drew HBr.out⟩
      case measure=> simp [intOf];omega
     ·have hq3:(sa==a)=false:=beq_eq_false_iff_ne.2 hq1
      clear hq
      go_wp2
      go_region
      go_wp2
      go_roundw
      case rel=> exact ⟨(i+1) % l.length,k+1,hx,next_lt hn i,by go_num,by go_num,HF,Below.drew HBr.out⟩
      case measure=> simp [intOf];omega
  ·have e:k=l.length:=by omega
   subst e
   have HF:=hide (show endL l a p=(-1,false) from hE.out.symm.trans (by rw [Nat.sub_self];rfl))
   clear hE
   go_wp2
   go_ret2
   exact ⟨by rw [HF.out];rfl,HB2.out⟩
theorem specTableOk_any (o:Option Addr) (c:Nat) (l:List Sl) (w:World) (hR:RdS w.heap.size w o l) (hl:l.length≤1048576):
  Calls Tryz.prog 89 #[tab (.slice o l.length c)] w fun e w'=> e=.returned (.bool (tableOkB l))∧Below w.heap.size w w':=by
 have hB:Below w.heap.size w w:=Below.refl _ _
 by_cases hlen:1≤l.length∧l.length≤16
 ·obtain ⟨hn,h16⟩:=hlen
  rcases hR with hR|⟨b,off,rfl,hbl,hcell⟩
  ·subst hR;simp at hn
  have HC:=hide hcell
  have i1:¬((l.length:Int) < 1):=by omega
  have i2:¬(16 < (l.length:Int)):=by omega
  have h0:Hid (Below w.heap.size w (w.alloc (.cells #[.slice (some ⟨b,off,none⟩) l.length c] 49))):=hB.alloc (Nat.le_refl _) _
  have hb0:Hid ((w.alloc (.cells #[.slice (some ⟨b,off,none⟩) l.length c] 49)).cell? ⟨w.heap.size,0,none⟩=some (.slice (some ⟨b,off,none⟩) l.length c)):=by simp [hide,go_sem,Hid]
  have hz0:w.heap.size < (w.alloc (.cells #[.slice (some ⟨b,off,none⟩) l.length c] 49)).heap.size:=by simp
  clear hcell hB
  go_enter Tryz.func89,Tryz.ntmps89
  go_wp2
  generalize w.alloc (.cells #[.slice (some ⟨b,off,none⟩) l.length c] 49)=w0 at *
  go_loopw [3] (fun i wr=> ∃k:Nat,k≤l.length∧i=.int .i64 k∧Hid (tabTo l k)∧Hid (Below w0.heap.size w0 wr))
   (fun i _=> l.length - (intOf i).toNat)
  case atStart=> exact ⟨0,Nat.zero_le _,rfl,fun i hi=> absurd hi (Nat.not_lt_zero _),Below.refl _ _⟩
  case round=>
   obtain ⟨k,hk,rfl,hT,HBr⟩:=hrel
   have d0:wr.cell? ⟨w.heap.size,0,none⟩=some (.slice (some ⟨b,off,none⟩) l.length c):=(HBr.out.cell (p:=⟨w.heap.size,0,none⟩) hz0).trans hb0.out
   have HB2:=hide (h0.out.trans (HBr.out.mono h0.out.size))
   have hs1:w0.heap.size≤wr.heap.size:=HBr.out.size
   by_cases hlt:k < l.length
   ·obtain ⟨s,hxy⟩:∃s,l.getD k sl0=s:=⟨_,rfl⟩
    have hcx:=RdL.slot (C:=w.heap.size) HC.out k hlt
    rw [hxy] at hcx
    have e0:wr.cell? ⟨b,off+k * 5,none⟩=some (.bool s.u):=(HB2.out.cell (p:=⟨b,off+k * 5,none⟩) hbl).trans hcx.1
    have e1:wr.cell? ⟨b,off+k * 5+1,none⟩=some (.int .i64 s.a):=(HB2.out.cell (p:=⟨b,off+k * 5+1,none⟩) hbl).trans hcx.2.1
    have e2:wr.cell? ⟨b,off+k * 5+2,none⟩=some (.int .i64 s.p):=(HB2.out.cell (p:=⟨b,off+k * 5+2,none⟩) hbl).trans hcx.2.2.1
    have e3:wr.cell? ⟨b,off+k * 5+3,none⟩=some (.int .i64 s.v):=(HB2.out.cell (p:=⟨b,off+k * 5+3,none⟩) hbl).trans hcx.2.2.2.1
    have e4:wr.cell? ⟨b,off+k * 5+4,none⟩=some (.int .i64 s.t):=(HB2.out.cell (p:=⟨b,off+k * 5+4,none⟩) hbl).trans hcx.2.2.2.2
    have hk':(k:Int) < (l.length:Int):=by omega
    have HX:=hide hxy
    clear hcx hxy
    obtain ⟨su,sa,sp,sv,st⟩:=s
    simp only at e0 e1 e2 e3 e4
    cases su with
    |false=>
     by_cases hz:sa=0∧sp=0∧sv=0∧st=0
     ·obtain ⟨rfl,rfl,rfl,rfl⟩:=hz
      have HT:=hide (tabTo_succ hT.out (tabAt_free (by rw [HX.out]) ((slotB_free (by rw [HX.out])).2 HX.out)))
      clear hT
      go_wp2
      go_roundw
      case rel=> exact ⟨k+1,hlt,by go_num,HT,show Below _ _ _ by have hB:=HBr.out;(repeat (first|with_reducible (first|exact hB|exact Below.refl _ _|refine Below.drew ?_|refine below_drewN ?_ _|refine Below.alloc ?_ ?_ _|refine Below.setCell ?_ ?_ _)|(focus (simp;first|done|omega))|omega))⟩
      case measure=> simp [intOf];omega
     ·have HN:=hide (tableOkB_no hlt (tabAt_slot (by rw [HX.out];simp [slotB];intro h1 h2 h3 h4;exact hz ⟨h1,h2,h3,h4⟩)))
      clear hT
      go_wp2
      all_goals go_ret
      all_goals exact ⟨ret_bool HN.out,by have hB:=HB2.out;(repeat (first|with_reducible (first|exact hB|exact Below.refl _ _|refine Below.drew ?_|refine below_drewN ?_ _|refine Below.alloc ?_ ?_ _|refine Below.setCell ?_ ?_ _)|(focus (simp;first|done|omega))|omega))⟩
    |true=>
     obtain ⟨W1,hW1⟩:∃W,wr.alloc (.cells #[.bool true,.int .i64 sa,.int .i64 sp,.int .i64 sv,.int .i64 st] 165)=W:=⟨_,rfl⟩
     have hbW:Hid (Below wr.heap.size wr W1):=by rw [←hW1];exact (Below.refl _ _).alloc (Nat.le_refl _) _
     have hzW:wr.heap.size < W1.heap.size:=by rw [←hW1];simp
     have c0:W1.cell? ⟨wr.heap.size,0,none⟩=some (.bool true):=by rw [←hW1];simp [go_sem]
     have c1:W1.cell? ⟨wr.heap.size,1,none⟩=some (.int .i64 sa):=by rw [←hW1];simp [go_sem]
     have c2:W1.cell? ⟨wr.heap.size,2,none⟩=some (.int .i64 sp):=by rw [←hW1];simp [go_sem]
     have c3:W1.cell? ⟨wr.heap.size,3,none⟩=some (.int .i64 sv):=by rw [←hW1];simp [go_sem]
     have c4:W1.cell? ⟨wr.heap.size,4,none⟩=some (.int .i64 st):=by rw [←hW1];simp [go_sem]
     have c5:W1.cell? ⟨w.heap.size,0,none⟩=some (.slice (some ⟨b,off,none⟩) l.length c):=(hbW.out.cell (p:=⟨w.heap.size,0,none⟩) (show w.heap.size < wr.heap.size by omega)).trans d0
     have hz3:w.heap.size < W1.heap.size:=by omega
     have HBW:=hide (HB2.out.trans (hbW.out.mono HB2.out.size))
     have HW:=hide (HBr.out.trans (hbW.out.mono HBr.out.size))
     have hfl:=specFlowOk_any sa sp W1
     cases hfo:flowOkB sa sp with
     |false=>
      have HN:=hide (tableOkB_no hlt (tabAt_slot (by rw [HX.out];simp [slotB,hfo])))
      rw [hfo] at hfl
      clear hT hfo
      go_wp2_with (go_at_call 44;refine hfl.mono ?_;rintro e w2 ⟨rfl,hb2⟩;have HB3:=hide (HBW.out.trans (hb2.mono HBW.out.size));have m0:=(hb2.cell (p:=⟨wr.heap.size,0,none⟩) hzW).trans c0;have m2:=(hb2.cell (p:=⟨wr.heap.size,3,none⟩) hzW).trans c3;have m3:=(hb2.cell (p:=⟨wr.heap.size,4,none⟩) hzW).trans c4;clear hb2)
      all_goals go_ret
      all_goals exact ⟨ret_bool HN.out,HB3.out⟩
     |true=>
      rw [hfo] at hfl
      by_cases hv:0≤sv∧sv≤100000∧0≤st∧st≤200000
      ·obtain ⟨v1,v2,v3,v4⟩:=hv
       have g1:¬sv < 0:=by omega
       have g2:¬100000 < sv:=by omega
       have g3:¬st < 0:=by omega
       have g4:¬200000 < st:=by omega
       have HS:=hide ((slotB_used (s:=l.getD k sl0) (by rw [HX.out])).2 (by rw [HX.out];exact ⟨hfo,v1,v2,v3,v4⟩))
       have HF:=hide hfo
       clear hfo v1 v2 v3 v4
       have hat:=fun W hr=> l5at_any (some ⟨b,off,none⟩) c l sa sp W hr (by omega) hl HF.out
       by_cases hE:endL l sa sp=((k:Int),true)
       ·have HT:=hide (tabTo_succ hT.out (tabAt_used HS.out (by rw [HX.out];exact hE)))
        rw [hE] at hat
        clear hT hE
        go_wp2_with (first|(go_at_call 44;refine hfl.mono ?_;rintro e w2 ⟨rfl,hb2⟩;have HB3:=hide (HBW.out.trans (hb2.mono HBW.out.size));have HB4:=hide (HW.out.trans (hb2.mono HW.out.size));have m0:=(hb2.cell (p:=⟨wr.heap.size,0,none⟩) hzW).trans c0;have m1:=(hb2.cell (p:=⟨wr.heap.size,1,none⟩) hzW).trans c1;have m4:=(hb2.cell (p:=⟨wr.heap.size,2,none⟩) hzW).trans c2;have m2:=(hb2.cell (p:=⟨wr.heap.size,3,none⟩) hzW).trans c3;have m3:=(hb2.cell (p:=⟨wr.heap.size,4,none⟩) hzW).trans c4;have m5:=(hb2.cell (p:=⟨w.heap.size,0,none⟩) hz3).trans c5;have hz2:=hb2.size;clear hb2)|(go_at_call 148;refine (hat _ (.inr ⟨b,off,rfl,by omega,fun i hi j hj=> (HB3.out.cell (p:=⟨b,off+i * layS.k+j,none⟩) hbl).trans (HC.out i hi j hj)⟩)).mono ?_;rintro e w3 ⟨rfl,hb3⟩;have HB5:=hide (HB4.out.trans (hb3.mono HB4.out.size));clear hb3))
        go_roundw
        case rel=> exact ⟨k+1,hlt,by go_num,HT,HB5⟩
        case measure=> simp [intOf];omega
       ·have HN:=hide (tableOkB_no hlt (tabAt_way (by rw [HX.out]) (by rw [HX.out];exact hE)))
        generalize hEE:endL l sa sp=E at *
        obtain ⟨E1,E2⟩:=E
        have hE':E2=true→¬E1=(k:Int):=fun h1 h2=> hE (by rw [h1,h2])
        clear hT hE hEE
        cases E2 with
        |false=>
         go_wp2_with (first|(go_at_call 44;refine hfl.mono ?_;rintro e w2 ⟨rfl,hb2⟩;have HB3:=hide (HBW.out.trans (hb2.mono HBW.out.size));have HB4:=hide (HW.out.trans (hb2.mono HW.out.size));have m0:=(hb2.cell (p:=⟨wr.heap.size,0,none⟩) hzW).trans c0;have m1:=(hb2.cell (p:=⟨wr.heap.size,1,none⟩) hzW).trans c1;have m4:=(hb2.cell (p:=⟨wr.heap.size,2,none⟩) hzW).trans c2;have m2:=(hb2.cell (p:=⟨wr.heap.size,3,none⟩) hzW).trans c3;have m3:=(hb2.cell (p:=⟨wr.heap.size,4,none⟩) hzW).trans c4;have m5:=(hb2.cell (p:=⟨w.heap.size,0,none⟩) hz3).trans c5;have hz2:=hb2.size;clear hb2)|(go_at_call 148;refine (hat _ (.inr ⟨b,off,rfl,by omega,fun i hi j hj=> (HB3.out.cell (p:=⟨b,off+i * layS.k+j,none⟩) hbl).trans (HC.out i hi j hj)⟩)).mono ?_;rintro e w3 ⟨rfl,hb3⟩;have HB5:=hide (HB3.out.trans (hb3.mono HB3.out.size));clear hb3))
         go_ret
         exact ⟨ret_bool HN.out,HB5.out⟩
        |true=>
         have hE3:=hE' rfl
         have hE4:(E1==(k:Int))=false:=beq_eq_false_iff_ne.2 hE3
         clear hE'
         go_wp2_with (first|(go_at_call 44;refine hfl.mono ?_;rintro e w2 ⟨rfl,hb2⟩;have HB3:=hide (HBW.out.trans (hb2.mono HBW.out.size));have HB4:=hide (HW.out.trans (hb2.mono HW.out.size));have m0:=(hb2.cell (p:=⟨wr.heap.size,0,none⟩) hzW).trans c0;have m1:=(hb2.cell (p:=⟨wr.heap.size,1,none⟩) hzW).trans c1;have m4:=(hb2.cell (p:=⟨wr.heap.size,2,none⟩) hzW).trans c2;have m2:=(hb2.cell (p:=⟨wr.heap.size,3,none⟩) hzW).trans c3;have m3:=(hb2.cell (p:=⟨wr.heap.size,4,none⟩) hzW).trans c4;have m5:=(hb2.cell (p:=⟨w.heap.size,0,none⟩) hz3).trans c5;have hz2:=hb2.size;clear hb2)|(go_at_call 148;refine (hat _ (.inr ⟨b,off,rfl,by omega,fun i hi j hj=> (HB3.out.cell (p:=⟨b,off+i * layS.k+j,none⟩) hbl).trans (HC.out i hi j hj)⟩)).mono ?_;rintro e w3 ⟨rfl,hb3⟩;have HB5:=hide (HB3.out.trans (hb3.mono HB3.out.size));clear hb3))
         go_ret
         exact ⟨ret_bool HN.out,HB5.out⟩
      ·have HN:=hide (tableOkB_no hlt (tabAt_slot (by rw [HX.out];simp [slotB,hfo];intro h1 h2 h3;exact Int.not_le.1 fun h4=> hv ⟨h1,h2,h3,h4⟩)))
       have HV:=hide hv
       clear hT hfo hv
       go_wp2_with (go_at_call 44;refine hfl.mono ?_;rintro e w2 ⟨rfl,hb2⟩;have HB3:=hide (HBW.out.trans (hb2.mono HBW.out.size));have m0:=(hb2.cell (p:=⟨wr.heap.size,0,none⟩) hzW).trans c0;have m1:=(hb2.cell (p:=⟨wr.heap.size,1,none⟩) hzW).trans c1;have m4:=(hb2.cell (p:=⟨wr.heap.size,2,none⟩) hzW).trans c2;have m2:=(hb2.cell (p:=⟨wr.heap.size,3,none⟩) hzW).trans c3;have m3:=(hb2.cell (p:=⟨wr.heap.size,4,none⟩) hzW).trans c4;clear hb2)
       all_goals first|(go_ret;exact ⟨ret_bool HN.out,HB3.out⟩)|(exfalso;apply HV.out;omega)|skip
   ·have e:k=l.length:=by omega
    subst e
    have HY:=hide (tableOkB_yes hn h16 hT.out)
    go_wp2
    go_ret
    exact ⟨ret_bool HY.out,HB2.out⟩
 ·have HN:=hide (tableOkB_len hlen)
  by_cases h1:(l.length:Int) < 1
  ·go_enter Tryz.func89,Tryz.ntmps89
   go_wp2
   go_ret
   exact ⟨ret_bool HN.out,by (repeat (first|with_reducible (first|exact hB|exact Below.refl _ _|refine Below.drew ?_|refine below_drewN ?_ _|refine Below.alloc ?_ ?_ _|refine Below.setCell ?_ ?_ _)|(focus (simp;first|done|omega))|omega))⟩
  ·have h2:(16:Int) < l.length:=by omega
   go_enter Tryz.func89,Tryz.ntmps89
   go_wp2
   go_ret
   exact ⟨ret_bool HN.out,by (repeat (first|with_reducible (first|exact hB|exact Below.refl _ _|refine Below.drew ?_|refine below_drewN ?_ _|refine Below.alloc ?_ ?_ _|refine Below.setCell ?_ ?_ _)|(focus (simp;first|done|omega))|omega))⟩
end Go.Proofs.YtgplppfbinfelaaGreat
