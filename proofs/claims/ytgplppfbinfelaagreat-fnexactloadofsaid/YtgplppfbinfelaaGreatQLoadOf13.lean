/- Several texts in one: Backs, SBacks, LSlot, LMarkS, ShT, ShA, ShGs, LMarkB, TableMath, STabS, STabS2, STabS3. -/
import Derived.Deep.RegionHeld3
import Derived.Test.YtgplppfbinfelaaGreatQLoadOf03
namespace Go.Proofs.YtgplppfbinfelaaGreat
open Go.ChangeShapes Go.WideShapes Go.ChangeAt Go.RowKit Go.Joins
set_option linter.unusedVariables false
set_option linter.unusedSimpArgs false
set_option maxRecDepth 100000
set_option maxHeartbeats 40000000
abbrev Bk:=Int × Int × Bool
def Q0F:Lay Bk:=⟨3,fun a=> [.int .i64 a.1,.int .i64 a.2.1,.bool a.2.2],(0,0,false),fun _=> rfl⟩
abbrev back (i g:Int) (d:Bool):Value:=.agg #[.int .i64 i,.int .i64 g,.bool d]
abbrev RdK:=RdL Q0F
abbrev Q1x:=ownL Q0F 226
theorem RdL.back {C:Nat} {w:World} {b off:Nat} {l:List Bk} (h:∀i,i < l.length→∀j,j < Q0F.k→w.cell? ⟨b,off+i * Q0F.k+j,none⟩=(Q0F.cs (l.getD i Q0F.d))[j]?) (i:Nat) (hi:i < l.length):
  w.cell? ⟨b,off+i * 3,none⟩=some (.int .i64 (l.getD i (0,0,false)).1)∧w.cell? ⟨b,off+i * 3+1,none⟩=some (.int .i64 (l.getD i (0,0,false)).2.1)∧w.cell? ⟨b,off+i * 3+2,none⟩=some (.bool (l.getD i (0,0,false)).2.2):=
 ⟨h i hi 0 (by decide),h i hi 1 (by decide),h i hi 2 (by decide)⟩
theorem Q7I:Tryz.prog.cellsOf 275=3:=by kernel_rfl
theorem Qbb:(Tryz.prog.info? 226).map (fun i=> (i.zero,i.size,i.bytes))=some (some (.agg #[.int .i64 0,.int .i64 0,.bool false]),3,24):=by kernel_rfl
theorem Qdl:Tryz.prog.cellsOf 3=1:=by kernel_rfl
theorem Qbu:Tryz.prog.cellsOf 4=1:=by kernel_rfl
theorem Q5p {H:Type} {enc:TypeId × Value→H} {W:World} {fuel:Nat} {cs:List Value} {x:DataW H × List MemPlace} (h:DataW.trod enc Tryz.prog W 0 (fun _=> true) true fuel 25 cs=some x):
  ∃(o:Option Addr) (cap:Nat) (l:List Bk),cs=[.slice o l.length cap]∧l.length≤maxLen∧RdK W.heap.size W o l:=by
 refine Q38 Q0F (by decide) Tryz.underlying25 Q7I ?_ h
 intro n cs y hl hy
 match cs,hl with
 |[c0,c1,c2],_=>
  obtain ⟨y0,y1,y2,m,_,_,h0,h1,h2⟩:=Go.Deep.trod_struct3 Tryz.underlying275 hy
  simp [Qdl,Qbu] at h0 h1 h2
  obtain ⟨a,e0,_,_⟩:=DataW.trod_int Tryz.underlying3 h0
  obtain ⟨b,e1,_,_⟩:=DataW.trod_int Tryz.underlying3 h1
  obtain ⟨c,e2,_⟩:=DataW.trod_bool Tryz.underlying4 h2
  simp at e0 e1 e2
  subst e0 e1 e2
  exact ⟨(a,b,c),rfl⟩
theorem QbN (i g:Int) (d:Bool) (w:World):
  Calls Tryz.prog 194 #[back i g d] w fun e w'=> e=.returned (back i g d)∧Below w.heap.size w w':=by
 have hB:Below w.heap.size w w:=Below.refl _ _
 go_enter Tryz.func194,Tryz.ntmps194
 go_wp2
 refine bodyPost_ret (v:=.agg #[.int .i64 i,.int .i64 g,.bool d]) (by simp [results,Tryz.results194,go_sem]) rfl ⟨rfl, ?_⟩
 (repeat (first|with_reducible (first|exact hB|exact Below.refl _ _|refine Below.drew ?_|refine below_drewN ?_ _|refine Below.alloc ?_ ?_ _|refine Below.setCell ?_ ?_ _)|(focus (simp;first|done|omega))|omega))
theorem QaU (i g:Int) (d:Bool) (w:World):
  Calls Tryz.prog 207 #[back i g d,back i g d] w fun e w'=> e=.returned (.bool true)∧Below w.heap.size w w':=by
 have hB:Below w.heap.size w w:=Below.refl _ _
 go_enter Tryz.func207,Tryz.ntmps207
 go_wp2
 all_goals go_ret
 all_goals exact ⟨rfl,by (repeat (first|with_reducible (first|exact hB|exact Below.refl _ _|refine Below.drew ?_|refine below_drewN ?_ _|refine Below.alloc ?_ ?_ _|refine Below.setCell ?_ ?_ _)|(focus (simp;first|done|omega))|omega))⟩
theorem Qat (o:Option Addr) (len cap:Nat) (n:Int) (w:World) (hl:len≤maxLen) (h0:0≤n) (h1:n≤1048576):
  Calls Tryz.prog 141 #[.slice o len cap,.int .i64 n] w fun e w'=> e=.returned (.int .i64 (if n - len < 0 then -1 else n - len))∧w=w':=by
 unfold maxLen at hl
 by_cases h:n - len < 0
 ·rw [if_pos h]
  go_enter Tryz.func141,Tryz.ntmps141
  go_wp2
  go_ret
  exact ⟨rfl,rfl⟩
 ·rw [if_neg h]
  go_enter Tryz.func141,Tryz.ntmps141
  go_wp2
  go_ret
  exact ⟨rfl,rfl⟩
theorem Qcf {w wr:World} {base g c:Nat} {l:List Bk} {k:Nat} {x y:Int} {z:Bool} (hxy:l.getD k (0,0,false)=(x,y,z)) (hk:k < l.length) (hg:base≤g) (hown:wr.ownsRow w.heap.size 226 3 (.slice (some ⟨g,0,none⟩) l.length c) l.length ((Q11 Q0F l k).flatMap Q0F.cs))
  (hB:Below base w wr):(((wr.setCell ⟨g,k * 3,none⟩ (.int .i64 x)).setCell ⟨g,k * 3+1,none⟩ (.int .i64 y)).setCell ⟨g,k * 3+2,none⟩ (.bool z)).ownsRow w.heap.size 226 3 (.slice (some ⟨g,0,none⟩) l.length c) l.length ((Q11 Q0F l (k+1)).flatMap Q0F.cs)∧
   Below base w (((wr.setCell ⟨g,k * 3,none⟩ (.int .i64 x)).setCell ⟨g,k * 3+1,none⟩ (.int .i64 y)).setCell ⟨g,k * 3+2,none⟩ (.bool z)):=by
 have h:=(((hown.stored (k * 3) (.int .i64 x)).1.stored (k * 3+1) (.int .i64 y)).1.stored (k * 3+2) (.bool z)).1
 rw [Q2r Q0F rfl (a:=(x,y,z)) rfl,←hxy,show l.getD k (0,0,false)=l.getD k Q0F.d from rfl,Q2n Q0F l k hk] at h
 exact ⟨h,((hB.setCell (p:=⟨g,k * 3,none⟩) hg _).setCell (p:=⟨g,k * 3+1,none⟩) hg _).setCell (p:=⟨g,k * 3+2,none⟩) hg _⟩
theorem QaP (o:Option Addr) (cap:Nat) (l:List Bk) (w:World) (hR:RdK w.heap.size w o l) (hlen:l.length≤1048576):
  Calls Tryz.prog 153 #[.slice o l.length cap] w fun e w'=> ∃g,e=.returned (.slice (some ⟨g,0,none⟩) l.length l.length)∧Q1x w' w.heap.size (.slice (some ⟨g,0,none⟩) l.length l.length) l∧Below w.heap.size w w':=by
 obtain ⟨i0,hi,hz0,hz1,hz2⟩:=info_parts Qbb
 have hB:Below w.heap.size w w:=Below.refl _ _
 go_enter Tryz.func153,Tryz.ntmps153
 go_wp2_with (at_make;refine wpList_make_full _ rfl _ _ 44 rfl w.heap.size 226 i0 (.agg #[.int .i64 0,.int .i64 0,.bool false]) 3 Tryz.underlying44 hi hz0 hz1 _ _ _ _ l.length rfl rfl rfl rfl ?b2 ?b3 ?b4 ?_)
 case b2=> rw [hz2];omega
 case b3=> unfold maxLen;omega
 case b4=> simp
 intro w1 hown hgrow
 have hB1:Below w.heap.size w w1:=hB.grown hgrow (Kaq _) (fun k h=> by cases h)
 have hown1:w1.ownsRow w.heap.size 226 3 (.slice (some ⟨w.heap.size,0,none⟩) l.length l.length) l.length ((Q11 Q0F l 0).flatMap Q0F.cs):=by
  rw [Q1X,←Q0W Q0F (.agg #[.int .i64 0,.int .i64 0,.bool false]) rfl];exact hown
 clear hown hgrow hB
 go_wp2
 go_loopw [4] (fun i wr=> ∃k:Nat,k≤l.length∧i=.int .i64 k∧wr.ownsRow w.heap.size 226 3 (.slice (some ⟨w.heap.size,0,none⟩) l.length l.length) l.length ((Q11 Q0F l k).flatMap Q0F.cs)∧Below w.heap.size w wr)
  (fun i _=> l.length - (intOf i).toNat)
 case atStart=> exact ⟨0,Kcq _,rfl,hown1,hB1⟩
 case round=>
  obtain ⟨k,hk,rfl,hown,hBr⟩:=hrel
  by_cases hlt:k < l.length
  ·rcases hR with hR|⟨b,off,rfl,hbl,hcell⟩
   ·subst hR;simp at hlt
   obtain ⟨x,y,z,hxy⟩:∃x y z,l.getD k (0,0,false)=(x,y,z):=⟨_,_,_,rfl⟩
   have hcx:=RdL.back (C:=w.heap.size) hcell k hlt
   rw [hxy] at hcx
   have hc0:wr.cell? ⟨b,off+k * 3,none⟩=some (.int .i64 x):=(hBr.cell (p:=⟨b,off+k * 3,none⟩) hbl).trans hcx.1
   have hc1:wr.cell? ⟨b,off+k * 3+1,none⟩=some (.int .i64 y):=(hBr.cell (p:=⟨b,off+k * 3+1,none⟩) hbl).trans hcx.2.1
   have hc2:wr.cell? ⟨b,off+k * 3+2,none⟩=some (.bool z):=(hBr.cell (p:=⟨b,off+k * 3+2,none⟩) hbl).trans hcx.2.2
   have HW:=Q00 (hlt)
   clear hcell hcx
   go_wp2_with fail
   refine (QbN _ _ _ _).mono ?_
   rintro e w2 ⟨rfl,hb2⟩
   have hB2:Below w.heap.size w w2:=hBr.trans (hb2.mono hBr.size)
   have hown2:=Q0a hown hb2
   have hln:((Q11 Q0F l k).flatMap Q0F.cs).length=l.length * 3:=by rw [Q0e,Q1t Q0F l k hk];rfl
   have hcl0:=hown2.cellAt (k * 3) (by omega)
   have hcl1:=hown2.cellAt (k * 3+1) (by omega)
   have hcl2:=hown2.cellAt (k * 3+2) (by omega)
   have hf0:=hown2.frozenAt (k * 3)
   have hf1:=hown2.frozenAt (k * 3+1)
   have hf2:=hown2.frozenAt (k * 3+2)
   obtain ⟨u0,hu0⟩:∃u,w2.cell? ⟨w.heap.size,k * 3,none⟩=some u:=⟨_,hcl0.trans (List.getElem?_eq_getElem (by omega))⟩
   obtain ⟨u1,hu1⟩:∃u,w2.cell? ⟨w.heap.size,k * 3+1,none⟩=some u:=⟨_,hcl1.trans (List.getElem?_eq_getElem (by omega))⟩
   obtain ⟨u2,hu2⟩:∃u,w2.cell? ⟨w.heap.size,k * 3+2,none⟩=some u:=⟨_,hcl2.trans (List.getElem?_eq_getElem (by omega))⟩
   have HR:=Q00 (Qcf (g:=w.heap.size) hxy hlt (Kaq _) hown2 hB2)
   clear hxy hown hBr hcl0 hcl1 hcl2 hB1 hown1 hown2 hc0 hc1 hc2 hb2 hln
   go_wp2
   go_roundw
   case rel=> exact ⟨k+1,by omega,by go_num,HR.out.1,HR.out.2⟩
   case measure=> simp [intOf];omega
  ·have e:k=l.length:=by omega
   subst e
   rw [Q2k] at hown
   go_wp2
   go_ret
   exact ⟨w.heap.size,rfl,hown,hBr⟩
theorem Q9I (o1 o2:Option Addr) (c1 c2:Nat) (l:List Bk) (w:World) (h1:RdK w.heap.size w o1 l) (h2:RdK w.heap.size w o2 l) (hl:l.length≤1048576):
  Calls Tryz.prog 165 #[.slice o1 l.length c1,.slice o2 l.length c2] w fun e w'=> e=.returned (.bool true)∧Below w.heap.size w w':=by
 go_enter Tryz.func165,Tryz.ntmps165
 go_wp2
 go_loopw [5] (fun i wr=> ∃k:Nat,k≤l.length∧i=.int .i64 k∧Below w.heap.size w wr)
  (fun i _=> l.length - (intOf i).toNat)
 case atStart=> exact ⟨0,Kcq _,rfl,Below.refl _ _⟩
 case round=>
  obtain ⟨k,hk,rfl,hBr⟩:=hrel
  by_cases hlt:k < l.length
  ·rcases h1 with h1|⟨b1,off1,rfl,hb1,hcell1⟩
   ·subst h1;simp at hlt
   rcases h2 with h2|⟨b2,off2,rfl,hb2,hcell2⟩
   ·subst h2;simp at hlt
   obtain ⟨x,y,z,hxy⟩:∃x y z,l.getD k (0,0,false)=(x,y,z):=⟨_,_,_,rfl⟩
   have hcx1:=RdL.back (C:=w.heap.size) hcell1 k hlt
   have hcx2:=RdL.back (C:=w.heap.size) hcell2 k hlt
   rw [hxy] at hcx1 hcx2
   have p0:wr.cell? ⟨b1,off1+k * 3,none⟩=some (.int .i64 x):=(hBr.cell (p:=⟨b1,off1+k * 3,none⟩) hb1).trans hcx1.1
   have p1:wr.cell? ⟨b1,off1+k * 3+1,none⟩=some (.int .i64 y):=(hBr.cell (p:=⟨b1,off1+k * 3+1,none⟩) hb1).trans hcx1.2.1
   have p2:wr.cell? ⟨b1,off1+k * 3+2,none⟩=some (.bool z):=(hBr.cell (p:=⟨b1,off1+k * 3+2,none⟩) hb1).trans hcx1.2.2
   have q0:wr.cell? ⟨b2,off2+k * 3,none⟩=some (.int .i64 x):=(hBr.cell (p:=⟨b2,off2+k * 3,none⟩) hb2).trans hcx2.1
   have q1:wr.cell? ⟨b2,off2+k * 3+1,none⟩=some (.int .i64 y):=(hBr.cell (p:=⟨b2,off2+k * 3+1,none⟩) hb2).trans hcx2.2.1
   have q2:wr.cell? ⟨b2,off2+k * 3+2,none⟩=some (.bool z):=(hBr.cell (p:=⟨b2,off2+k * 3+2,none⟩) hb2).trans hcx2.2.2
   have HB:=Q00 hBr
   have hsr:=Q00 hBr.size
   clear hcell1 hcell2 hBr hcx1 hcx2 hxy
   have i1:(k:Int) < (l.length:Int):=by omega
   go_wp2
   go_region_held3 (fun w'=> w'.cell? ⟨b1,off1+k * 3,none⟩=some (.int .i64 x)∧w'.cell? ⟨b1,off1+k * 3+1,none⟩=some (.int .i64 y)∧w'.cell? ⟨b1,off1+k * 3+2,none⟩=some (.bool z)∧w'.cell? ⟨b2,off2+k * 3,none⟩=some (.int .i64 x)∧w'.cell? ⟨b2,off2+k * 3+1,none⟩=some (.int .i64 y)∧w'.cell? ⟨b2,off2+k * 3+2,none⟩=some (.bool z)) (first|exact ⟨p0,p1,p2,q0,q1,q2⟩) (first|(go_at_call 207;refine (QaU _ _ _ _).mono ?_;rintro e w2 ⟨rfl,hb2'⟩;replace hb2':Below wr.heap.size wr w2:=(Below.drew (Below.refl _ _)).trans hb2';have p0:=(hb2'.cell (p:=⟨b1,off1+k * 3,none⟩) (Kbq hb1 hsr.out)).trans p0;have p1:=(hb2'.cell (p:=⟨b1,off1+k * 3+1,none⟩) (Kbq hb1 hsr.out)).trans p1;have p2:=(hb2'.cell (p:=⟨b1,off1+k * 3+2,none⟩) (Kbq hb1 hsr.out)).trans p2;have q0:=(hb2'.cell (p:=⟨b2,off2+k * 3,none⟩) (Kbq hb2 hsr.out)).trans q0;have q1:=(hb2'.cell (p:=⟨b2,off2+k * 3+1,none⟩) (Kbq hb2 hsr.out)).trans q1;have q2:=(hb2'.cell (p:=⟨b2,off2+k * 3+2,none⟩) (Kbq hb2 hsr.out)).trans q2))
   go_wp2
   go_roundw
   case rel=> exact ⟨k+1,by omega,by go_num,HB.out.trans (hb2'.mono HB.out.size)⟩
   case measure=> simp [intOf];omega
  ·have e:k=l.length:=by omega
   subst e
   go_wp2
   go_ret
   exact ⟨rfl,hBr⟩
def Q2B (i g:Int):Bool:=decide (0≤i) && decide (i < 6) && decide (1≤g) && decide (g≤100)
theorem Q4h {i g:Int}:Q2B i g=true↔0≤i∧i < 6∧1≤g∧g≤100:=by simp [Q2B,and_assoc]
def Qbg (l:List Bk) (i:Nat):Bool:=Q2B (l.getD i (0,0,false)).1 (l.getD i (0,0,false)).2.1 && (decide (i=0)||decide ((l.getD (i - 1) (0,0,false)).1 < (l.getD i (0,0,false)).1))
def QgN (l:List Bk) (k:Nat):Prop:=∀i,i < k→Qbg l i=true
def Q0f (l:List Bk):Bool:=(List.range l.length).all (Qbg l)
theorem Q10 {l:List Bk}:Q0f l=true↔QgN l l.length:=by simp [Q0f,QgN]
theorem Q9r {l:List Bk} {k:Nat} (h:QgN l k) (hk:Qbg l k=true):QgN l (k+1):=fun i hi=> by
 rcases Nat.lt_succ_iff_lt_or_eq.1 hi with h1|h1
 ·exact h i h1
 ·rw [h1];exact hk
theorem Q3H {l:List Bk} {k:Nat} (hk:k < l.length) (h:Qbg l k=false):false=Q0f l:=by
 cases hb:Q0f l with
 |false=> rfl
 |true=> rw [Q10.1 hb k hk] at h;cases h
theorem Qdc {l:List Bk} {x y:Int} {z:Bool} (h:l.getD 0 (0,0,false)=(x,y,z)):Qbg l 0=Q2B x y:=by simp only [Qbg,h];simp
theorem Qd4 {l:List Bk} {k:Nat} {x y x' y':Int} {z z':Bool} (h:l.getD (k+1) (0,0,false)=(x,y,z)) (h':l.getD k (0,0,false)=(x',y',z')):Qbg l (k+1)=(Q2B x y && decide (x' < x)):=by simp only [Qbg,h,h',Nat.add_sub_cancel];simp
structure Sl where
 u:Bool
 a:Int
 p:Int
 v:Int
 t:Int
abbrev sl0:Sl:=⟨false,0,0,0,0⟩
def Q0t:Lay Sl:=⟨5,fun s=> [.bool s.u,.int .i64 s.a,.int .i64 s.p,.int .i64 s.v,.int .i64 s.t],sl0,fun _=> rfl⟩
abbrev slot (s:Sl):Value:=.agg #[.bool s.u,.int .i64 s.a,.int .i64 s.p,.int .i64 s.v,.int .i64 s.t]
abbrev RdS:=RdL Q0t
abbrev Qhl:=ownL Q0t 165
abbrev InS:=InL Q0t 165
theorem RdL.slot {C:Nat} {w:World} {b off:Nat} {l:List Sl} (h:∀i,i < l.length→∀j,j < Q0t.k→w.cell? ⟨b,off+i * Q0t.k+j,none⟩=(Q0t.cs (l.getD i Q0t.d))[j]?) (i:Nat) (hi:i < l.length):
  w.cell? ⟨b,off+i * 5,none⟩=some (.bool (l.getD i sl0).u)∧w.cell? ⟨b,off+i * 5+1,none⟩=some (.int .i64 (l.getD i sl0).a)∧w.cell? ⟨b,off+i * 5+2,none⟩=some (.int .i64 (l.getD i sl0).p)∧w.cell? ⟨b,off+i * 5+3,none⟩=some (.int .i64 (l.getD i sl0).v)∧w.cell? ⟨b,off+i * 5+4,none⟩=some (.int .i64 (l.getD i sl0).t):=
 ⟨h i hi 0 (by decide),h i hi 1 (by decide),h i hi 2 (by decide),h i hi 3 (by decide),h i hi 4 (by decide)⟩
theorem Q39 {α:Type} (L:Lay α) (hk:L.k=5) {v0 v1 v2 v3 v4:Value} {a:α} (ha:L.cs a=[v0,v1,v2,v3,v4]):∀(l:List α) (i:Nat),(((((l.flatMap L.cs).set (i * 5) v0).set (i * 5+1) v1).set (i * 5+2) v2).set (i * 5+3) v3).set (i * 5+4) v4=(l.set i a).flatMap L.cs
 |[],i=> by simp
 |q::l,0=> by
  have hq:=(L.len q).trans hk
  match hc:L.cs q,hq with
  |[q0,q1,q2,q3,q4],_=> simp [ha,hc]
 |q::l,i+1=> by
  have hq:=(L.len q).trans hk
  match hc:L.cs q,hq with
  |[q0,q1,q2,q3,q4],_=>
   rw [show (i+1) * 5=i * 5+1+1+1+1+1 by omega]
   simp only [List.flatMap_cons,hc,List.cons_append,List.nil_append,List.set_cons_succ]
   rw [Q39 L hk ha l i]
theorem Qff:(Tryz.prog.info? 165).map (fun i=> (i.zero,i.size,i.bytes))=some (some (.agg #[.bool false,.int .i64 0,.int .i64 0,.int .i64 0,.int .i64 0]),5,40):=by kernel_rfl
theorem Q7n:Tryz.prog.cellsOf 3=1:=by kernel_rfl
theorem QaI:Tryz.prog.cellsOf 4=1:=by kernel_rfl
theorem Q7S:Tryz.prog.cellsOf 279=5:=by kernel_rfl
theorem Q58 {H:Type} {enc:TypeId × Value→H} {W:World} {fuel:Nat} {cs:List Value} {x:DataW H × List MemPlace} (h:DataW.trod enc Tryz.prog W 0 (fun _=> true) true fuel 29 cs=some x):
  ∃(o:Option Addr) (cap:Nat) (l:List Sl),cs=[.slice o l.length cap]∧l.length≤maxLen∧RdS W.heap.size W o l:=by
 refine Q38 Q0t (by decide) Tryz.underlying29 Q7S ?_ h
 intro n cs y hl hy
 match cs,hl with
 |[c0,c1,c2,c3,c4],_=>
  obtain ⟨y0,y1,y2,y3,m,_,_,h0,h1,h2,h3⟩:=trod_struct4 Tryz.underlying279 hy
  simp [Q7n,QaI,Q1O] at h0 h1 h2 h3
  obtain ⟨u,e0,_⟩:=DataW.trod_bool Tryz.underlying4 h0
  obtain ⟨z0,z1,m',_,_,k0,k1⟩:=trod_struct2 Tryz.underlying73 h1
  simp [Q7n] at k0 k1
  obtain ⟨a,e1,_,_⟩:=DataW.trod_int Tryz.underlying3 k0
  obtain ⟨p,e2,_,_⟩:=DataW.trod_int Tryz.underlying3 k1
  obtain ⟨v,e3,_,_⟩:=DataW.trod_int Tryz.underlying3 h2
  obtain ⟨t,e4,_,_⟩:=DataW.trod_int Tryz.underlying3 h3
  simp at e0 e1 e2 e3 e4
  subst e0 e1 e2 e3 e4
  exact ⟨⟨u,a,p,v,t⟩,rfl⟩
theorem Qc3 (s:Sl) (w:World):
  Calls Tryz.prog 196 #[slot s] w fun e w'=> e=.returned (slot s)∧Below w.heap.size w w':=by
 have hB:Below w.heap.size w w:=Below.refl _ _
 go_enter Tryz.func196,Tryz.ntmps196
 go_wp2_with (first|(go_at_call 30;refine (Q3n s.a s.p _).mono ?_;rintro e w1a ⟨rfl,hba⟩;obtain ⟨hca,hfa⟩:=Q0B hba;have hz0a:w.heap.size < w1a.heap.size:=(by have hz:=hba.size;(try simp at hz);omega);have hz1a:w.heap.size+1 < w1a.heap.size:=(by have hz:=hba.size;(try simp at hz);omega);have hB:Below w.heap.size w w1a:=(by refine Below.trans ?_ (hba.mono (by have hs:=hB.size;(try simp) <;> omega));(repeat (first|with_reducible (first|exact hB|exact Below.refl _ _|refine Below.drew ?_|refine below_drewN ?_ _|refine Below.alloc ?_ ?_ _|refine Below.setCell ?_ ?_ _)|(focus (simp;first|done|omega))|omega)))))
 refine bodyPost_ret (v:=slot s) (by simp [results,Tryz.results196,go_sem,hca,hz0a,hz1a]) rfl ⟨rfl, ?_⟩
 (repeat (first|with_reducible (first|exact hB|exact Below.refl _ _|refine Below.drew ?_|refine below_drewN ?_ _|refine Below.alloc ?_ ?_ _|refine Below.setCell ?_ ?_ _)|(focus (simp;first|done|omega))|omega))
theorem QaW (s:Sl) (w:World):
  Calls Tryz.prog 209 #[slot s,slot s] w fun e w'=> e=.returned (.bool true)∧Below w.heap.size w w':=by
 have hB:Below w.heap.size w w:=Below.refl _ _
 go_enter Tryz.func209,Tryz.ntmps209
 go_wp2_with (first|(go_at_call 169;refine (Q2L s.a s.p _).mono ?_;rintro e w1a ⟨rfl,hba⟩;obtain ⟨hca,hfa⟩:=Q0B hba;have hz0a:w.heap.size < w1a.heap.size:=(by have hz:=hba.size;(try simp at hz);omega);have hz1a:w.heap.size+1 < w1a.heap.size:=(by have hz:=hba.size;(try simp at hz);omega);have hB:Below w.heap.size w w1a:=(by refine Below.trans ?_ (hba.mono (by have hs:=hB.size;(try simp) <;> omega));(repeat (first|with_reducible (first|exact hB|exact Below.refl _ _|refine Below.drew ?_|refine below_drewN ?_ _|refine Below.alloc ?_ ?_ _|refine Below.setCell ?_ ?_ _)|(focus (simp;first|done|omega))|omega)))))
 all_goals go_ret
 all_goals exact ⟨rfl,by (repeat (first|with_reducible (first|exact hB|exact Below.refl _ _|refine Below.drew ?_|refine below_drewN ?_ _|refine Below.alloc ?_ ?_ _|refine Below.setCell ?_ ?_ _)|(focus (simp;first|done|omega))|omega))⟩
theorem Qa1 (o:Option Addr) (len cap:Nat) (n:Int) (w:World) (hl:len≤maxLen) (h0:0≤n) (h1:n≤1048576):
  Calls Tryz.prog 143 #[.slice o len cap,.int .i64 n] w fun e w'=> e=.returned (.int .i64 (if n - len < 0 then -1 else n - len))∧w=w':=by
 unfold maxLen at hl
 by_cases h:n - len < 0
 ·rw [if_pos h]
  go_enter Tryz.func143,Tryz.ntmps143
  go_wp2
  go_ret
  exact ⟨rfl,rfl⟩
 ·rw [if_neg h]
  go_enter Tryz.func143,Tryz.ntmps143
  go_wp2
  go_ret
  exact ⟨rfl,rfl⟩
theorem QdV {e:TypeId} {w wr:World} {base B g c n:Nat} {l:List Sl} {k:Nat} (s:Sl) (hg:B≤g) (hown:wr.ownsRow base e 5 (.slice (some ⟨g,0,none⟩) n c) n (l.flatMap Q0t.cs)) (hB:Below B w wr):
  (((((wr.setCell ⟨g,k * 5,none⟩ (.bool s.u)).setCell ⟨g,k * 5+1,none⟩ (.int .i64 s.a)).setCell ⟨g,k * 5+2,none⟩ (.int .i64 s.p)).setCell ⟨g,k * 5+3,none⟩ (.int .i64 s.v)).setCell ⟨g,k * 5+4,none⟩ (.int .i64 s.t)).ownsRow base e 5 (.slice (some ⟨g,0,none⟩) n c) n ((l.set k s).flatMap Q0t.cs)∧
   Below B w (((((wr.setCell ⟨g,k * 5,none⟩ (.bool s.u)).setCell ⟨g,k * 5+1,none⟩ (.int .i64 s.a)).setCell ⟨g,k * 5+2,none⟩ (.int .i64 s.p)).setCell ⟨g,k * 5+3,none⟩ (.int .i64 s.v)).setCell ⟨g,k * 5+4,none⟩ (.int .i64 s.t)):=by
 have h:=(((((hown.stored (k * 5) (.bool s.u)).1.stored (k * 5+1) (.int .i64 s.a)).1.stored (k * 5+2) (.int .i64 s.p)).1.stored (k * 5+3) (.int .i64 s.v)).1.stored (k * 5+4) (.int .i64 s.t)).1
 rw [Q39 Q0t rfl (a:=s) rfl] at h
 exact ⟨h,((((hB.setCell (p:=⟨g,k * 5,none⟩) hg _).setCell (p:=⟨g,k * 5+1,none⟩) hg _).setCell (p:=⟨g,k * 5+2,none⟩) hg _).setCell (p:=⟨g,k * 5+3,none⟩) hg _).setCell (p:=⟨g,k * 5+4,none⟩) hg _⟩
theorem QaA (o:Option Addr) (cap:Nat) (l:List Sl) (w:World) (hR:RdS w.heap.size w o l) (hlen:l.length≤1048576):
  Calls Tryz.prog 155 #[.slice o l.length cap] w fun e w'=> ∃g,e=.returned (.slice (some ⟨g,0,none⟩) l.length l.length)∧Qhl w' w.heap.size (.slice (some ⟨g,0,none⟩) l.length l.length) l∧Below w.heap.size w w':=by
 obtain ⟨i0,hi,hz0,hz1,hz2⟩:=info_parts Qff
 have hB:Below w.heap.size w w:=Below.refl _ _
 go_enter Tryz.func155,Tryz.ntmps155
 go_wp2_with (at_make;refine wpList_make_full _ rfl _ _ 47 rfl w.heap.size 165 i0 (slot sl0) 5 Tryz.underlying47 hi hz0 hz1 _ _ _ _ l.length rfl rfl rfl rfl ?b2 ?b3 ?b4 ?_)
 case b2=> rw [hz2];omega
 case b3=> unfold maxLen;omega
 case b4=> simp
 intro w1 hown hgrow
 have hB1:Below w.heap.size w w1:=hB.grown hgrow (Kaq _) (fun k h=> by cases h)
 have hown1:w1.ownsRow w.heap.size 165 5 (.slice (some ⟨w.heap.size,0,none⟩) l.length l.length) l.length ((Q11 Q0t l 0).flatMap Q0t.cs):=by
  rw [Q1X,←Q0W Q0t (slot sl0) rfl];exact hown
 clear hown hgrow hB
 go_wp2
 go_loopw [4] (fun i wr=> ∃k:Nat,k≤l.length∧i=.int .i64 k∧wr.ownsRow w.heap.size 165 5 (.slice (some ⟨w.heap.size,0,none⟩) l.length l.length) l.length ((Q11 Q0t l k).flatMap Q0t.cs)∧Below w.heap.size w wr)
  (fun i _=> l.length - (intOf i).toNat)
 case atStart=> exact ⟨0,Kcq _,rfl,hown1,hB1⟩
 case round=>
  obtain ⟨k,hk,rfl,hown,hBr⟩:=hrel
  by_cases hlt:k < l.length
  ·rcases hR with hR|⟨b,off,rfl,hbl,hcell⟩
   ·subst hR;simp at hlt
   obtain ⟨s,hxy⟩:∃s,l.getD k sl0=s:=⟨_,rfl⟩
   have hcx:=RdL.slot (C:=w.heap.size) hcell k hlt
   rw [hxy] at hcx
   have hc0:wr.cell? ⟨b,off+k * 5,none⟩=some (.bool s.u):=(hBr.cell (p:=⟨b,off+k * 5,none⟩) hbl).trans hcx.1
   have hc1:wr.cell? ⟨b,off+k * 5+1,none⟩=some (.int .i64 s.a):=(hBr.cell (p:=⟨b,off+k * 5+1,none⟩) hbl).trans hcx.2.1
   have hc2:wr.cell? ⟨b,off+k * 5+2,none⟩=some (.int .i64 s.p):=(hBr.cell (p:=⟨b,off+k * 5+2,none⟩) hbl).trans hcx.2.2.1
   have hc3:wr.cell? ⟨b,off+k * 5+3,none⟩=some (.int .i64 s.v):=(hBr.cell (p:=⟨b,off+k * 5+3,none⟩) hbl).trans hcx.2.2.2.1
   have hc4:wr.cell? ⟨b,off+k * 5+4,none⟩=some (.int .i64 s.t):=(hBr.cell (p:=⟨b,off+k * 5+4,none⟩) hbl).trans hcx.2.2.2.2
   have HW:=Q00 (hlt)
   clear hcell hcx
   go_wp2_with fail
   refine (Qc3 s _).mono ?_
   rintro e w2 ⟨rfl,hb2⟩
   have hB2:Below w.heap.size w w2:=hBr.trans (hb2.mono hBr.size)
   have hown2:=Q0a hown hb2
   have hln:((Q11 Q0t l k).flatMap Q0t.cs).length=l.length * 5:=by rw [Q0e,Q1t Q0t l k hk];rfl
   obtain ⟨u0,hu0⟩:∃u,w2.cell? ⟨w.heap.size,k * 5,none⟩=some u:=⟨_,(hown2.cellAt (k * 5) (by omega)).trans (List.getElem?_eq_getElem (by omega))⟩
   have hf0:=hown2.frozenAt (k * 5)
   obtain ⟨u1,hu1⟩:∃u,w2.cell? ⟨w.heap.size,k * 5+1,none⟩=some u:=⟨_,(hown2.cellAt (k * 5+1) (by omega)).trans (List.getElem?_eq_getElem (by omega))⟩
   have hf1:=hown2.frozenAt (k * 5+1)
   obtain ⟨u2,hu2⟩:∃u,w2.cell? ⟨w.heap.size,k * 5+2,none⟩=some u:=⟨_,(hown2.cellAt (k * 5+2) (by omega)).trans (List.getElem?_eq_getElem (by omega))⟩
   have hf2:=hown2.frozenAt (k * 5+2)
   obtain ⟨u3,hu3⟩:∃u,w2.cell? ⟨w.heap.size,k * 5+3,none⟩=some u:=⟨_,(hown2.cellAt (k * 5+3) (by omega)).trans (List.getElem?_eq_getElem (by omega))⟩
   have hf3:=hown2.frozenAt (k * 5+3)
   obtain ⟨u4,hu4⟩:∃u,w2.cell? ⟨w.heap.size,k * 5+4,none⟩=some u:=⟨_,(hown2.cellAt (k * 5+4) (by omega)).trans (List.getElem?_eq_getElem (by omega))⟩
   have hf4:=hown2.frozenAt (k * 5+4)
   have HR:=Q00 (QdV (k:=k) s (Kaq _) hown2 hB2)
   have HX:=Q00 (show (Q11 Q0t l k).set k s=Q11 Q0t l (k+1) by rw [←hxy];exact Q2n Q0t l k hlt)
   clear hxy hown hBr hB1 hown1 hown2 hc0 hc1 hc2 hc3 hc4 hb2 hln
   go_wp2
   go_roundw
   case rel=> exact ⟨k+1,by omega,by go_num,(by have:=HR.out.1;rw [HX.out] at this;exact this),HR.out.2⟩
   case measure=> simp [intOf];omega
  ·have e:k=l.length:=by omega
   subst e
   rw [Q2k] at hown
   go_wp2
   go_ret
   exact ⟨w.heap.size,rfl,hown,hBr⟩
theorem Q8D (o1 o2:Option Addr) (c1 c2:Nat) (l:List Sl) (w:World) (h1:RdS w.heap.size w o1 l) (h2:RdS w.heap.size w o2 l) (hl:l.length≤1048576):
  Calls Tryz.prog 167 #[.slice o1 l.length c1,.slice o2 l.length c2] w fun e w'=> e=.returned (.bool true)∧Below w.heap.size w w':=by
 go_enter Tryz.func167,Tryz.ntmps167
 go_wp2
 go_loopw [5] (fun i wr=> ∃k:Nat,k≤l.length∧i=.int .i64 k∧Below w.heap.size w wr)
  (fun i _=> l.length - (intOf i).toNat)
 case atStart=> exact ⟨0,Kcq _,rfl,Below.refl _ _⟩
 case round=>
  obtain ⟨k,hk,rfl,hBr⟩:=hrel
  by_cases hlt:k < l.length
  ·rcases h1 with h1|⟨b1,off1,rfl,hb1,hcell1⟩
   ·subst h1;simp at hlt
   rcases h2 with h2|⟨b2,off2,rfl,hb2,hcell2⟩
   ·subst h2;simp at hlt
   obtain ⟨s,hxy⟩:∃s,l.getD k sl0=s:=⟨_,rfl⟩
   have hcx1:=RdL.slot (C:=w.heap.size) hcell1 k hlt
   have hcx2:=RdL.slot (C:=w.heap.size) hcell2 k hlt
   rw [hxy] at hcx1 hcx2
   have p0:wr.cell? ⟨b1,off1+k * 5,none⟩=some (.bool s.u):=(hBr.cell (p:=⟨b1,off1+k * 5,none⟩) hb1).trans hcx1.1
   have p1:wr.cell? ⟨b1,off1+k * 5+1,none⟩=some (.int .i64 s.a):=(hBr.cell (p:=⟨b1,off1+k * 5+1,none⟩) hb1).trans hcx1.2.1
   have p2:wr.cell? ⟨b1,off1+k * 5+2,none⟩=some (.int .i64 s.p):=(hBr.cell (p:=⟨b1,off1+k * 5+2,none⟩) hb1).trans hcx1.2.2.1
   have p3:wr.cell? ⟨b1,off1+k * 5+3,none⟩=some (.int .i64 s.v):=(hBr.cell (p:=⟨b1,off1+k * 5+3,none⟩) hb1).trans hcx1.2.2.2.1
   have p4:wr.cell? ⟨b1,off1+k * 5+4,none⟩=some (.int .i64 s.t):=(hBr.cell (p:=⟨b1,off1+k * 5+4,none⟩) hb1).trans hcx1.2.2.2.2
   have q0:wr.cell? ⟨b2,off2+k * 5,none⟩=some (.bool s.u):=(hBr.cell (p:=⟨b2,off2+k * 5,none⟩) hb2).trans hcx2.1
   have q1:wr.cell? ⟨b2,off2+k * 5+1,none⟩=some (.int .i64 s.a):=(hBr.cell (p:=⟨b2,off2+k * 5+1,none⟩) hb2).trans hcx2.2.1
   have q2:wr.cell? ⟨b2,off2+k * 5+2,none⟩=some (.int .i64 s.p):=(hBr.cell (p:=⟨b2,off2+k * 5+2,none⟩) hb2).trans hcx2.2.2.1
   have q3:wr.cell? ⟨b2,off2+k * 5+3,none⟩=some (.int .i64 s.v):=(hBr.cell (p:=⟨b2,off2+k * 5+3,none⟩) hb2).trans hcx2.2.2.2.1
   have q4:wr.cell? ⟨b2,off2+k * 5+4,none⟩=some (.int .i64 s.t):=(hBr.cell (p:=⟨b2,off2+k * 5+4,none⟩) hb2).trans hcx2.2.2.2.2
   have HB:=Q00 hBr
   have hsr:=Q00 hBr.size
   clear hcell1 hcell2 hBr hcx1 hcx2 hxy
   have i1:(k:Int) < (l.length:Int):=by omega
   go_wp2
   go_region_held3 (fun w'=> w'.cell? ⟨b1,off1+k * 5,none⟩=some (.bool s.u)∧w'.cell? ⟨b1,off1+k * 5+1,none⟩=some (.int .i64 s.a)∧w'.cell? ⟨b1,off1+k * 5+2,none⟩=some (.int .i64 s.p)∧w'.cell? ⟨b1,off1+k * 5+3,none⟩=some (.int .i64 s.v)∧w'.cell? ⟨b1,off1+k * 5+4,none⟩=some (.int .i64 s.t)∧w'.cell? ⟨b2,off2+k * 5,none⟩=some (.bool s.u)∧w'.cell? ⟨b2,off2+k * 5+1,none⟩=some (.int .i64 s.a)∧w'.cell? ⟨b2,off2+k * 5+2,none⟩=some (.int .i64 s.p)∧w'.cell? ⟨b2,off2+k * 5+3,none⟩=some (.int .i64 s.v)∧w'.cell? ⟨b2,off2+k * 5+4,none⟩=some (.int .i64 s.t)) (first|exact ⟨p0,p1,p2,p3,p4,q0,q1,q2,q3,q4⟩) (first|(go_at_call 209;refine (QaW s _).mono ?_;rintro e w2 ⟨rfl,hb2'⟩;replace hb2':Below wr.heap.size wr w2:=(Below.drew (Below.refl _ _)).trans hb2';have p0:=(hb2'.cell (p:=⟨b1,off1+k * 5,none⟩) (Kbq hb1 hsr.out)).trans p0;have p1:=(hb2'.cell (p:=⟨b1,off1+k * 5+1,none⟩) (Kbq hb1 hsr.out)).trans p1;have p2:=(hb2'.cell (p:=⟨b1,off1+k * 5+2,none⟩) (Kbq hb1 hsr.out)).trans p2;have p3:=(hb2'.cell (p:=⟨b1,off1+k * 5+3,none⟩) (Kbq hb1 hsr.out)).trans p3;have p4:=(hb2'.cell (p:=⟨b1,off1+k * 5+4,none⟩) (Kbq hb1 hsr.out)).trans p4;have q0:=(hb2'.cell (p:=⟨b2,off2+k * 5,none⟩) (Kbq hb2 hsr.out)).trans q0;have q1:=(hb2'.cell (p:=⟨b2,off2+k * 5+1,none⟩) (Kbq hb2 hsr.out)).trans q1;have q2:=(hb2'.cell (p:=⟨b2,off2+k * 5+2,none⟩) (Kbq hb2 hsr.out)).trans q2;have q3:=(hb2'.cell (p:=⟨b2,off2+k * 5+3,none⟩) (Kbq hb2 hsr.out)).trans q3;have q4:=(hb2'.cell (p:=⟨b2,off2+k * 5+4,none⟩) (Kbq hb2 hsr.out)).trans q4))
   go_wp2
   go_roundw
   case rel=> exact ⟨k+1,by omega,by go_num,HB.out.trans (hb2'.mono HB.out.size)⟩
   case measure=> simp [intOf];omega
  ·have e:k=l.length:=by omega
   subst e
   go_wp2
   go_ret
   exact ⟨rfl,hBr⟩
def QcJ (k:Int):Sl:=⟨k % 3==0,k+1,k+1+1,k+1+1+1,k+1+1+1+1⟩
theorem Q2K (base:Nat) (v:Value) (l:List Sl) (k:Int) (w:World) (hv:ownL Q0t 165 w base v l) (h0:0≤k) (h1:k≤1073741824) (hlen:l.length≤1048576):
  Calls Tryz.prog 122 #[v,.int .i64 k] w fun e w'=> e=.returned (.int .i64 (k+5 * l.length))∧ownL Q0t 165 w' base v (mkL QcJ 5 k l.length)∧w.grownBy w' v.ownBlock:=by
 rcases hv.2 with ⟨rfl,h2⟩|⟨g,cap,cur,rfl,hg,_⟩
 ·have e:l=[]:=List.eq_nil_of_length_eq_zero h2
  subst e
  go_enter Tryz.func122,Tryz.ntmps122
  go_wp2
  refine wp_loop_rounds 1 ?_
  rw [rounds_succ]
  go_wp2
  go_ret
  exact ⟨by simp,by simpa [mkL] using hv,World.grownBy.refl _ _⟩
 ·have hv0:w.ownsRow base 165 5 (.slice (some ⟨g,0,none⟩) l.length cap) l.length ((Q3r QcJ 5 l k 0).flatMap Q0t.cs):=by rw [Q3e];exact hv
  go_enter Tryz.func122,Tryz.ntmps122
  go_wp2
  go_loopw [1,5] (fun q j wr=> ∃i:Nat,i≤l.length∧j=.int .i64 i∧q=.int .i64 (k+5 * (i:Int))∧wr.ownsRow base 165 5 (.slice (some ⟨g,0,none⟩) l.length cap) l.length ((Q3r QcJ 5 l k i).flatMap Q0t.cs)∧w.grownBy wr (some g))
   (fun _ j _=> l.length - (intOf j).toNat)
  case atStart=> exact ⟨0,Kcq _,rfl,by simp,hv0,World.grownBy.refl _ _⟩
  case round=>
   obtain ⟨i,hi,rfl,rfl,hown,hgr⟩:=hrel
   by_cases hlt:i < l.length
   ·have hxl:((Q3r QcJ 5 l k i).flatMap Q0t.cs).length=l.length * 5:=by rw [Q0e,Q23 _ _ _ _ _ hi];rfl
    have E:=Q39 Q0t rfl (a:=QcJ (k+5 * (i:Int))) rfl (Q3r QcJ 5 l k i) i
    have E2:=Q49 QcJ 5 l k i hlt
    have HE0:=E.trans (congrArg (fun z=> List.flatMap Q0t.cs z) E2)
    simp only [QcJ] at HE0
    clear E E2
    have hbm:(k+5 * (i:Int)).tmod 3=(k+5 * (i:Int)) % 3:=Int.tmod_eq_emod_of_nonneg (by omega)
    generalize hxs:(Q3r QcJ 5 l k i).flatMap Q0t.cs=xs at *
    generalize hBB:((k+5 * (i:Int)) % 3==0)=B at *
    have s1:=Q0x (j:=i * 5) (u:=.bool B) hown hgr
    have s2:=Q0x (j:=i * 5+1) (u:=.int .i64 (k+5 * (i:Int)+1)) s1.1 s1.2
    have s3:=Q0x (j:=i * 5+2) (u:=.int .i64 (k+5 * (i:Int)+1+1)) s2.1 s2.2
    have s4:=Q0x (j:=i * 5+3) (u:=.int .i64 (k+5 * (i:Int)+1+1+1)) s3.1 s3.2
    have s5:=Q0x (j:=i * 5+4) (u:=.int .i64 (k+5 * (i:Int)+1+1+1+1)) s4.1 s4.2
    have f0:=hown.frozenAt (i * 5)
    obtain ⟨q0,hq0⟩:∃z,wr.cell? ⟨g,i * 5,none⟩=some z:=⟨_,(hown.cellAt (i * 5) (by omega)).trans (List.getElem?_eq_getElem (by (try simp) <;> omega))⟩
    have f1:=s1.1.frozenAt (i * 5+1)
    obtain ⟨q1,hq1⟩:∃z,(wr.setCell ⟨g,i * 5,none⟩ (.bool B)).cell? ⟨g,i * 5+1,none⟩=some z:=⟨_,(s1.1.cellAt (i * 5+1) (by omega)).trans (List.getElem?_eq_getElem (by (try simp) <;> omega))⟩
    have f2:=s2.1.frozenAt (i * 5+2)
    obtain ⟨q2,hq2⟩:∃z,((wr.setCell ⟨g,i * 5,none⟩ (.bool B)).setCell ⟨g,i * 5+1,none⟩ (.int .i64 (k+5 * (i:Int)+1))).cell? ⟨g,i * 5+2,none⟩=some z:=⟨_,(s2.1.cellAt (i * 5+2) (by omega)).trans (List.getElem?_eq_getElem (by (try simp) <;> omega))⟩
    have f3:=s3.1.frozenAt (i * 5+3)
    obtain ⟨q3,hq3⟩:∃z,(((wr.setCell ⟨g,i * 5,none⟩ (.bool B)).setCell ⟨g,i * 5+1,none⟩ (.int .i64 (k+5 * (i:Int)+1))).setCell ⟨g,i * 5+2,none⟩ (.int .i64 (k+5 * (i:Int)+1+1))).cell? ⟨g,i * 5+3,none⟩=some z:=⟨_,(s3.1.cellAt (i * 5+3) (by omega)).trans (List.getElem?_eq_getElem (by (try simp) <;> omega))⟩
    have f4:=s4.1.frozenAt (i * 5+4)
    obtain ⟨q4,hq4⟩:∃z,((((wr.setCell ⟨g,i * 5,none⟩ (.bool B)).setCell ⟨g,i * 5+1,none⟩ (.int .i64 (k+5 * (i:Int)+1))).setCell ⟨g,i * 5+2,none⟩ (.int .i64 (k+5 * (i:Int)+1+1))).setCell ⟨g,i * 5+3,none⟩ (.int .i64 (k+5 * (i:Int)+1+1+1))).cell? ⟨g,i * 5+4,none⟩=some z:=⟨_,(s4.1.cellAt (i * 5+4) (by omega)).trans (List.getElem?_eq_getElem (by (try simp) <;> omega))⟩
    have S:=Q00 s5
    have HE:=Q00 HE0
    have z1:(i:Int) < (l.length:Int):=by omega
    clear s1 s2 s3 s4 s5 hown hgr hv hv0 HE0 hxl
    go_wp2
    go_roundw
    case rel=>
     refine ⟨i+1,by omega,by go_num,by go_num, ?_,S.out.2⟩
     have h:=S.out.1
     rw [←HE.out]
     exact h
    case measure=> simp [intOf];omega
   ·have e:i=l.length:=by omega
    subst e
    rw [Q47] at hown
    have HO:=Q00 hown
    clear hown
    go_wp2
    go_ret
    exact ⟨rfl,(by have:=HO.out;unfold ownL;rw [Q1s];exact this),hgr⟩
abbrev tab (v:Value):Value:=.agg #[v]
theorem Q05 {W:World} {B:Nat} {c:Array Value} {t:TypeId} (h:W.heap[B]? =some (.cells c t (0,0))) (j:Nat) (u:Value) (hj:c[j]? =some u):W.cell? ⟨B,j,none⟩=some u:=by
 simp [World.cell?,h,hj]
def RdT (C:Nat) (w:World) (v:Value) (l:List Sl):Prop:=∃vl,v=tab vl∧RdV Q0t C w vl l
def InTb (lo hi:Nat) (w:World) (v:Value) (l:List Sl):Prop:=∃vl,v=tab vl∧InS lo hi w vl l
theorem RdT.kept {C D:Nat} {w w':World} {v:Value} {m:List Sl} (h:RdT C w v m) (hb:Below D w w') (hc:C≤D):RdT C w' v m:=by
 obtain ⟨vl,e,h1⟩:=h
 exact ⟨vl,e,h1.kept hb hc⟩
theorem RdT.le {C D:Nat} {w:World} {v:Value} {m:List Sl} (h:RdT C w v m) (hc:C≤D):RdT D w v m:=by
 obtain ⟨vl,e,h1⟩:=h
 exact ⟨vl,e,h1.le hc⟩
theorem InTb.rd {lo hi:Nat} {w:World} {v:Value} {m:List Sl} (h:InTb lo hi w v m):RdT hi w v m:=by
 obtain ⟨vl,e,h1⟩:=h
 exact ⟨vl,e,InL.rd (L:=Q0t) h1⟩
theorem InTb.step {a b lo hi:Nat} {w w':World} {v:Value} {m:List Sl} (h:InTb a b w v m) (s:Stp lo hi w w') (hd:hi≤a∨b≤lo):InTb a b w' v m:=by
 obtain ⟨vl,e,h1⟩:=h
 exact ⟨vl,e,InRow.step h1 s hd⟩
theorem InTb.mono {a b a' b':Nat} {w:World} {v:Value} {m:List Sl} (h:InTb a b w v m) (h1:a'≤a) (h2:b≤b'):InTb a' b' w v m:=by
 obtain ⟨vl,e,h3⟩:=h
 exact ⟨vl,e,InRow.mono h3 h1 h2⟩
theorem InTb.row {lo hi:Nat} {w:World} {v:Value} {l:List Sl} (h:InTb lo hi w (tab v) l):InS lo hi w v l:=by
 obtain ⟨vl,e,h1⟩:=h
 injection e with e
 simp at e
 subst e
 exact h1
theorem Q7h:Tryz.prog.cellsOf 31=1:=by kernel_rfl
theorem Q6Q:Tryz.prog.cellsOf 29=1:=by kernel_rfl
theorem Q1M {H:Type} {enc:TypeId × Value→H} {W:World} {fuel:Nat} {cs:List Value} {x:DataW H × List MemPlace} (hl:cs.length=1) (h:DataW.trod enc Tryz.prog W 0 (fun _=> true) true fuel 31 cs=some x):
  ∃(o:Option Addr) (cap:Nat) (l:List Sl),cs=[.slice o l.length cap]∧l.length≤maxLen∧RdS W.heap.size W o l:=by
 match cs,hl with
 |[c0],_=>
  obtain ⟨y0,n,_,_,h0⟩:=trod_struct1 Tryz.underlying31 h
  simp [Q6Q] at h0
  exact Q58 h0
theorem Q5X (o:Option Addr) (len c:Nat) (n:Int) (w:World) (hl:len≤maxLen) (h0:0≤n) (h1:n≤1048576):
  Calls Tryz.prog 85 #[tab (.slice o len c),.int .i64 n] w fun e w'=> e=.returned (.int .i64 (if n - len < 0 then -1 else n - len))∧Below w.heap.size w w':=by
 have hB:Below w.heap.size w w:=Below.refl _ _
 have hs:=fun W=> Qa1 o len c n W hl h0 h1
 by_cases h:n - len < 0
 ·rw [if_pos h] at hs
  rw [if_pos h]
  go_enter Tryz.func85,Tryz.ntmps85
  go_wp2_with (go_at_call 143;refine (hs _).mono ?_;rintro e w1 ⟨rfl,rfl⟩)
  go_ret
  exact ⟨rfl,by (repeat (first|with_reducible (first|exact hB|exact Below.refl _ _|refine Below.drew ?_|refine below_drewN ?_ _|refine Below.alloc ?_ ?_ _|refine Below.setCell ?_ ?_ _)|(focus (simp;first|done|omega))|omega))⟩
 ·rw [if_neg h] at hs
  rw [if_neg h]
  have h':0≤n - (len:Int):=by omega
  go_enter Tryz.func85,Tryz.ntmps85
  go_wp2_with (go_at_call 143;refine (hs _).mono ?_;rintro e w1 ⟨rfl,rfl⟩)
  go_ret
  exact ⟨rfl,by (repeat (first|with_reducible (first|exact hB|exact Below.refl _ _|refine Below.drew ?_|refine below_drewN ?_ _|refine Below.alloc ?_ ?_ _|refine Below.setCell ?_ ?_ _)|(focus (simp;first|done|omega))|omega))⟩
theorem Q4u (v:Value) (m:List Sl) (w:World) (hR:RdT w.heap.size w v m) (hf:m.length≤1048576):
  Calls Tryz.prog 95 #[v] w fun e w'=> ∃v',e=.returned v'∧InTb w.heap.size w'.heap.size w' v' m∧Below w.heap.size w w':=by
 obtain ⟨vl,rfl,o,c,rfl,hr⟩:=hR
 have hB:Below w.heap.size w w:=Below.refl _ _
 go_enter Tryz.func95,Tryz.ntmps95
 go_wp2_with (first|(go_at_call 155;refine (QaA o c m _ ((hr.kept (D:=w.heap.size) (by (repeat (first|with_reducible (first|exact hB|exact Below.refl _ _|refine Below.drew ?_|refine below_drewN ?_ _|refine Below.alloc ?_ ?_ _|refine Below.setCell ?_ ?_ _)|(focus (simp;first|done|omega))|omega))) (Kaq _)).le (by (try simp) <;> omega)) hf).mono ?_;rintro e w1a ⟨g,rfl,hown,hba⟩;obtain ⟨hca,hfa⟩:=Q0B hba;have hz0a:w.heap.size < w1a.heap.size:=(by have hz:=hba.size;(try simp at hz);omega);have hz1a:w.heap.size+1 < w1a.heap.size:=(by have hz:=hba.size;(try simp at hz);omega);have hz2a:w.heap.size+1+1 < w1a.heap.size:=(by have hz:=hba.size;(try simp at hz);omega);have hB:Below w.heap.size w w1a:=(by refine Below.trans ?_ (hba.mono (by have hs:=hB.size;(try simp) <;> omega));(repeat (first|with_reducible (first|exact hB|exact Below.refl _ _|refine Below.drew ?_|refine below_drewN ?_ _|refine Below.alloc ?_ ?_ _|refine Below.setCell ?_ ?_ _)|(focus (simp;first|done|omega))|omega)))))
 have hown':Qhl w1a (w.heap.size+1+1+1) (.slice (some ⟨g,0,none⟩) m.length m.length) m:=by simpa using hown
 clear hown hba
 refine bodyPost_ret (v:=tab (.slice (some ⟨g,0,none⟩) m.length m.length)) (by simp [results,Tryz.results95,go_sem,hca,hz0a,hz1a,hz2a]) rfl ⟨_,rfl,⟨_,rfl,InRow.of ?_⟩, ?_⟩
 ·refine Q07 (base:=w.heap.size+1+1+1) ?_ (by omega)
  repeat (refine ownsRow_setCell_below ?_ (by simp <;> omega) _)
  exact hown'
 ·(repeat (first|with_reducible (first|exact hB|exact Below.refl _ _|refine Below.drew ?_|refine below_drewN ?_ _|refine Below.alloc ?_ ?_ _|refine Below.setCell ?_ ?_ _)|(focus (simp;first|done|omega))|omega))
theorem Q4R (v1 v2:Value) (m:List Sl) (w:World) (h1:RdT w.heap.size w v1 m) (h2:RdT w.heap.size w v2 m) (hl:m.length≤1048576):
  Calls Tryz.prog 107 #[v1,v2] w fun e w'=> e=.returned (.bool true)∧Below w.heap.size w w':=by
 obtain ⟨vl,rfl,o,c,rfl,r1⟩:=h1
 obtain ⟨vl2,rfl,o2,c2,rfl,r2⟩:=h2
 have hB:Below w.heap.size w w:=Below.refl _ _
 go_enter Tryz.func107,Tryz.ntmps107
 go_wp2_with (first|(go_at_call 167;refine (Q8D o o2 c c2 m _ ((r1.kept (D:=w.heap.size) (by (repeat (first|with_reducible (first|exact hB|exact Below.refl _ _|refine Below.drew ?_|refine below_drewN ?_ _|refine Below.alloc ?_ ?_ _|refine Below.setCell ?_ ?_ _)|(focus (simp;first|done|omega))|omega))) (Kaq _)).le (by (try simp) <;> omega)) ((r2.kept (D:=w.heap.size) (by (repeat (first|with_reducible (first|exact hB|exact Below.refl _ _|refine Below.drew ?_|refine below_drewN ?_ _|refine Below.alloc ?_ ?_ _|refine Below.setCell ?_ ?_ _)|(focus (simp;first|done|omega))|omega))) (Kaq _)).le (by (try simp) <;> omega)) hl).mono ?_;rintro e w1 ⟨rfl,hb⟩;obtain ⟨hc,hf⟩:=Q0B hb;have hz0:w.heap.size < w1.heap.size:=(by have hz:=hb.size;(try simp at hz);omega);have hz1:w.heap.size+1 < w1.heap.size:=(by have hz:=hb.size;(try simp at hz);omega);have hB:Below w.heap.size w w1:=(by refine Below.trans ?_ (hb.mono (by have hs:=hB.size;(try simp) <;> omega));(repeat (first|with_reducible (first|exact hB|exact Below.refl _ _|refine Below.drew ?_|refine below_drewN ?_ _|refine Below.alloc ?_ ?_ _|refine Below.setCell ?_ ?_ _)|(focus (simp;first|done|omega))|omega)))))
 go_ret
 exact ⟨rfl,by (repeat (first|with_reducible (first|exact hB|exact Below.refl _ _|refine Below.drew ?_|refine below_drewN ?_ _|refine Below.alloc ?_ ?_ _|refine Below.setCell ?_ ?_ _)|(focus (simp;first|done|omega))|omega))⟩
def Qh4 (k:Int) (m:List Sl):List Sl:=mkL QcJ 5 k m.length
theorem Q9g (lo hi:Nat) (v:Value) (m:List Sl) (k:Int) (w:World) (hv:InTb lo hi w v m) (h0:0≤k) (h1:k≤100000000) (hl:m.length≤1048576):
  Calls Tryz.prog 121 #[v,.int .i64 k] w fun e w'=> e=.returned (.int .i64 (k+5 * m.length))∧InTb lo hi w' v (Qh4 k m)∧Stp lo hi w w':=by
 obtain ⟨vl,rfl,iv⟩:=hv
 obtain ⟨ol,cl,hle,_⟩:=InL.rd (L:=Q0t) iv
 subst hle
 have s1:Hid (Stp lo hi w (w.alloc (.cells #[.slice ol m.length cl] 49))):=Stp.of ((Below.refl _ _).alloc (Kaq _) _)
 have i1:Hid (InS lo hi (w.alloc (.cells #[.slice ol m.length cl] 49)) (.slice ol m.length cl) m):=⟨World.ownsRow.alloc iv.1 _,iv.2⟩
 clear iv
 go_enter Tryz.func121,Tryz.ntmps121
 go_wp2_with fail
 generalize w.alloc (.cells #[.slice ol m.length cl] 49)=w1 at *
 refine (Q2K lo _ m k w1 i1.out.1 h0 (by omega) hl).mono ?_
 rintro e w2 ⟨rfl,hown,hgr⟩
 have H:Hid (InTb lo hi w2 (tab (.slice ol m.length cl)) (Qh4 k m)∧Stp lo hi w w2):=⟨⟨_,rfl,hown,i1.out.2⟩,s1.out.trans (Stp.grown hgr (fun b e=> ⟨(i1.out.1.lt b e).1,i1.out.2 b e⟩))⟩
 clear hown hgr s1 i1
 go_wp2
 go_ret
 exact ⟨rfl,H.out.1,H.out.2⟩
theorem Q06 (W:World) (B j:Nat) (v:Value):Stp B (B+1) W (W.setCell ⟨B,j,none⟩ v):=by
 have h:=(Below.refl B W).setCell (p:=⟨B,j,none⟩) (Kaq _) v
 exact ⟨h.os,h.tape,h.output,h.size,fun k hk hn=> Below.heap_setCell W ⟨B,j,none⟩ v k (by simp;omega)⟩
theorem Q3X (W:World) (B:Nat) (a b c d e:Value):Stp B (B+1) W (((((W.setCell ⟨B,0,none⟩ a).setCell ⟨B,1,none⟩ b).setCell ⟨B,2,none⟩ c).setCell ⟨B,3,none⟩ d).setCell ⟨B,4,none⟩ e):=
 ((((Q06 W B 0 a).trans (Q06 _ B 1 b)).trans (Q06 _ B 2 c)).trans (Q06 _ B 3 d)).trans (Q06 _ B 4 e)
theorem Q3J {w W:World} {C B:Nat} (h:Below C w W) (hC:C≤B) (a b c d e:Value):Below C w (((((W.setCell ⟨B,0,none⟩ a).setCell ⟨B,1,none⟩ b).setCell ⟨B,2,none⟩ c).setCell ⟨B,3,none⟩ d).setCell ⟨B,4,none⟩ e):=
 ((((h.setCell (p:=⟨B,0,none⟩) hC a).setCell (p:=⟨B,1,none⟩) hC b).setCell (p:=⟨B,2,none⟩) hC c).setCell (p:=⟨B,3,none⟩) hC d).setCell (p:=⟨B,4,none⟩) hC e
theorem Q7o (W:World) (B:Nat) (a b c d e:Value):(((((W.setCell ⟨B,0,none⟩ a).setCell ⟨B,1,none⟩ b).setCell ⟨B,2,none⟩ c).setCell ⟨B,3,none⟩ d).setCell ⟨B,4,none⟩ e).heap.size=W.heap.size:=by simp
structure Am where
 id:Int
 lim:Int
 dr:Bool
 c:List Sl
 t:List Sl
abbrev agt (i l:Int) (d:Bool) (vc vt:Value):Value:=.agg #[.int .i64 i,.int .i64 l,.bool d,vc,vt]
def RdA (C:Nat) (w:World) (v:Value) (m:Am):Prop:=∃vc vt,v=agt m.id m.lim m.dr vc vt∧RdV Q0t C w vc m.c∧RdV Q0t C w vt m.t
def InA (lo hi:Nat) (w:World) (v:Value) (m:Am):Prop:=∃vc vt mid,v=agt m.id m.lim m.dr vc vt∧InS lo mid w vc m.c∧InS mid hi w vt m.t∧lo≤mid∧mid≤hi
theorem Q6Z:Tryz.prog.cellsOf 3=1:=by kernel_rfl
theorem QaD:Tryz.prog.cellsOf 4=1:=by kernel_rfl
structure Gt where
 a:Int
 p:Int
 bk:Int
 sq:Int
abbrev gt0:Gt:=⟨0,0,0,0⟩
def Q0I:Lay Gt:=⟨4,fun s=> [.int .i64 s.a,.int .i64 s.p,.int .i64 s.bk,.int .i64 s.sq],gt0,fun _=> rfl⟩
abbrev gtv (s:Gt):Value:=.agg #[.int .i64 s.a,.int .i64 s.p,.int .i64 s.bk,.int .i64 s.sq]
theorem RdL.gt {C:Nat} {w:World} {b off:Nat} {l:List Gt} (h:∀i,i < l.length→∀j,j < Q0I.k→w.cell? ⟨b,off+i * Q0I.k+j,none⟩=(Q0I.cs (l.getD i Q0I.d))[j]?) (i:Nat) (hi:i < l.length):
  w.cell? ⟨b,off+i * 4,none⟩=some (.int .i64 (l.getD i gt0).a)∧w.cell? ⟨b,off+i * 4+1,none⟩=some (.int .i64 (l.getD i gt0).p)∧w.cell? ⟨b,off+i * 4+2,none⟩=some (.int .i64 (l.getD i gt0).bk)∧w.cell? ⟨b,off+i * 4+3,none⟩=some (.int .i64 (l.getD i gt0).sq):=
 ⟨h i hi 0 (by decide),h i hi 1 (by decide),h i hi 2 (by decide),h i hi 3 (by decide)⟩
theorem Q5O {α:Type} (L:Lay α) (hk:L.k=4) {v0 v1 v2 v3:Value} {a:α} (ha:L.cs a=[v0,v1,v2,v3]):∀(l:List α) (i:Nat),(((((l.flatMap L.cs).set (i * 4) v0).set (i * 4+1) v1).set (i * 4+2) v2).set (i * 4+3) v3)=(l.set i a).flatMap L.cs
 |[],i=> by simp
 |q::l,0=> by
  have hq:=(L.len q).trans hk
  match hc:L.cs q,hq with
  |[q0,q1,q2,q3],_=> simp [ha,hc]
 |q::l,i+1=> by
  have hq:=(L.len q).trans hk
  match hc:L.cs q,hq with
  |[q0,q1,q2,q3],_=>
   rw [show (i+1) * 4=i * 4+1+1+1+1 by omega]
   simp only [List.flatMap_cons,hc,List.cons_append,List.nil_append,List.set_cons_succ]
   rw [Q5O L hk ha l i]
theorem Qfs:(Tryz.prog.info? 98).map (fun i=> (i.zero,i.size,i.bytes))=some (some (.agg #[.int .i64 0,.int .i64 0,.int .i64 0,.int .i64 0]),4,32):=by kernel_rfl
theorem Q9i:Tryz.prog.cellsOf 3=1:=by kernel_rfl
theorem Q8L:Tryz.prog.cellsOf 174=4:=by kernel_rfl
theorem Q6h {H:Type} {enc:TypeId × Value→H} {W:World} {fuel:Nat} {cs:List Value} {x:DataW H × List MemPlace} (h:DataW.trod enc Tryz.prog W 0 (fun _=> true) true fuel 36 cs=some x):
  ∃(o:Option Addr) (cap:Nat) (l:List Gt),cs=[.slice o l.length cap]∧l.length≤maxLen∧RdL Q0I W.heap.size W o l:=by
 refine Q38 Q0I (by decide) Tryz.underlying36 Q8L ?_ h
 intro n cs y hl hy
 match cs,hl with
 |[c0,c1,c2,c3],_=>
  obtain ⟨y0,y1,y2,m,_,_,h0,h1,h2⟩:=Go.Deep.trod_struct3 Tryz.underlying174 hy
  simp [Q9i,Q1O] at h0 h1 h2
  obtain ⟨z0,z1,m',_,_,k0,k1⟩:=trod_struct2 Tryz.underlying73 h0
  simp [Q9i] at k0 k1
  obtain ⟨a,e1,_,_⟩:=DataW.trod_int Tryz.underlying3 k0
  obtain ⟨p,e2,_,_⟩:=DataW.trod_int Tryz.underlying3 k1
  obtain ⟨v,e3,_,_⟩:=DataW.trod_int Tryz.underlying3 h1
  obtain ⟨t,e4,_,_⟩:=DataW.trod_int Tryz.underlying3 h2
  simp at e1 e2 e3 e4
  subst e1 e2 e3 e4
  exact ⟨⟨a,p,v,t⟩,rfl⟩
theorem Qd3 (s:Gt) (w:World):
  Calls Tryz.prog 98 #[gtv s] w fun e w'=> e=.returned (gtv s)∧Below w.heap.size w w':=by
 have hB:Below w.heap.size w w:=Below.refl _ _
 go_enter Tryz.func98,Tryz.ntmps98
 go_wp2_with (first|(go_at_call 30;refine (Q3n s.a s.p _).mono ?_;rintro e w1a ⟨rfl,hba⟩;obtain ⟨hca,hfa⟩:=Q0B hba;have hz0a:w.heap.size < w1a.heap.size:=(by have hz:=hba.size;(try simp at hz);omega);have hz1a:w.heap.size+1 < w1a.heap.size:=(by have hz:=hba.size;(try simp at hz);omega);have hB:Below w.heap.size w w1a:=(by refine Below.trans ?_ (hba.mono (by have hs:=hB.size;(try simp) <;> omega));(repeat (first|with_reducible (first|exact hB|exact Below.refl _ _|refine Below.drew ?_|refine below_drewN ?_ _|refine Below.alloc ?_ ?_ _|refine Below.setCell ?_ ?_ _)|(focus (simp;first|done|omega))|omega)))))
 refine bodyPost_ret (v:=gtv s) (by simp [results,Tryz.results98,go_sem,hca,hz0a,hz1a]) rfl ⟨rfl, ?_⟩
 (repeat (first|with_reducible (first|exact hB|exact Below.refl _ _|refine Below.drew ?_|refine below_drewN ?_ _|refine Below.alloc ?_ ?_ _|refine Below.setCell ?_ ?_ _)|(focus (simp;first|done|omega))|omega))
theorem Qc5 (s:Gt) (w:World):
  Calls Tryz.prog 110 #[gtv s,gtv s] w fun e w'=> e=.returned (.bool true)∧Below w.heap.size w w':=by
 have hB:Below w.heap.size w w:=Below.refl _ _
 go_enter Tryz.func110,Tryz.ntmps110
 go_wp2_with (first|(go_at_call 169;refine (Q2L s.a s.p _).mono ?_;rintro e w1a ⟨rfl,hba⟩;obtain ⟨hca,hfa⟩:=Q0B hba;have hz0a:w.heap.size < w1a.heap.size:=(by have hz:=hba.size;(try simp at hz);omega);have hz1a:w.heap.size+1 < w1a.heap.size:=(by have hz:=hba.size;(try simp at hz);omega);have hB:Below w.heap.size w w1a:=(by refine Below.trans ?_ (hba.mono (by have hs:=hB.size;(try simp) <;> omega));(repeat (first|with_reducible (first|exact hB|exact Below.refl _ _|refine Below.drew ?_|refine below_drewN ?_ _|refine Below.alloc ?_ ?_ _|refine Below.setCell ?_ ?_ _)|(focus (simp;first|done|omega))|omega)))))
 all_goals go_ret
 all_goals exact ⟨rfl,by (repeat (first|with_reducible (first|exact hB|exact Below.refl _ _|refine Below.drew ?_|refine below_drewN ?_ _|refine Below.alloc ?_ ?_ _|refine Below.setCell ?_ ?_ _)|(focus (simp;first|done|omega))|omega))⟩
theorem QbT (o:Option Addr) (len cap:Nat) (n:Int) (w:World) (hl:len≤maxLen) (h0:0≤n) (h1:n≤1048576):
  Calls Tryz.prog 40 #[.slice o len cap,.int .i64 n] w fun e w'=> e=.returned (.int .i64 (if n - len < 0 then -1 else n - len))∧w=w':=by
 unfold maxLen at hl
 by_cases h:n - len < 0
 ·rw [if_pos h]
  go_enter Tryz.func40,Tryz.ntmps40
  go_wp2
  go_ret
  exact ⟨rfl,rfl⟩
 ·rw [if_neg h]
  go_enter Tryz.func40,Tryz.ntmps40
  go_wp2
  go_ret
  exact ⟨rfl,rfl⟩
theorem QfQ {e:TypeId} {w wr:World} {base B g c n:Nat} {l:List Gt} {k:Nat} (s:Gt) (hg:B≤g) (hown:wr.ownsRow base e 4 (.slice (some ⟨g,0,none⟩) n c) n (l.flatMap Q0I.cs)) (hB:Below B w wr):
  ((((wr.setCell ⟨g,k * 4,none⟩ (.int .i64 s.a)).setCell ⟨g,k * 4+1,none⟩ (.int .i64 s.p)).setCell ⟨g,k * 4+2,none⟩ (.int .i64 s.bk)).setCell ⟨g,k * 4+3,none⟩ (.int .i64 s.sq)).ownsRow base e 4 (.slice (some ⟨g,0,none⟩) n c) n ((l.set k s).flatMap Q0I.cs)∧Below B w ((((wr.setCell ⟨g,k * 4,none⟩ (.int .i64 s.a)).setCell ⟨g,k * 4+1,none⟩ (.int .i64 s.p)).setCell ⟨g,k * 4+2,none⟩ (.int .i64 s.bk)).setCell ⟨g,k * 4+3,none⟩ (.int .i64 s.sq)):=by
 have h:=((((hown.stored (k * 4) (.int .i64 s.a)).1.stored (k * 4+1) (.int .i64 s.p)).1.stored (k * 4+2) (.int .i64 s.bk)).1.stored (k * 4+3) (.int .i64 s.sq)).1
 rw [Q5O Q0I rfl (a:=s) rfl] at h
 exact ⟨h,((((hB.setCell (p:=⟨g,k * 4,none⟩) hg _).setCell (p:=⟨g,k * 4+1,none⟩) hg _).setCell (p:=⟨g,k * 4+2,none⟩) hg _).setCell (p:=⟨g,k * 4+3,none⟩) hg _)⟩
theorem Qco (o:Option Addr) (cap:Nat) (l:List Gt) (w:World) (hR:RdL Q0I w.heap.size w o l) (hlen:l.length≤1048576):
  Calls Tryz.prog 48 #[.slice o l.length cap] w fun e w'=> ∃g,e=.returned (.slice (some ⟨g,0,none⟩) l.length l.length)∧ownL Q0I 98 w' w.heap.size (.slice (some ⟨g,0,none⟩) l.length l.length) l∧Below w.heap.size w w':=by
 obtain ⟨i0,hi,hz0,hz1,hz2⟩:=info_parts Qfs
 have hB:Below w.heap.size w w:=Below.refl _ _
 go_enter Tryz.func48,Tryz.ntmps48
 go_wp2_with (at_make;refine wpList_make_full _ rfl _ _ 54 rfl w.heap.size 98 i0 (gtv gt0) 4 Tryz.underlying54 hi hz0 hz1 _ _ _ _ l.length rfl rfl rfl rfl ?b2 ?b3 ?b4 ?_)
 case b2=> rw [hz2];omega
 case b3=> unfold maxLen;omega
 case b4=> simp
 intro w1 hown hgrow
 have hB1:Below w.heap.size w w1:=hB.grown hgrow (Kaq _) (fun k h=> by cases h)
 have hown1:w1.ownsRow w.heap.size 98 4 (.slice (some ⟨w.heap.size,0,none⟩) l.length l.length) l.length ((Q11 Q0I l 0).flatMap Q0I.cs):=by
  rw [Q1X,←Q0W Q0I (gtv gt0) rfl];exact hown
 clear hown hgrow hB
 go_wp2
 go_loopw [4] (fun i wr=> ∃k:Nat,k≤l.length∧i=.int .i64 k∧wr.ownsRow w.heap.size 98 4 (.slice (some ⟨w.heap.size,0,none⟩) l.length l.length) l.length ((Q11 Q0I l k).flatMap Q0I.cs)∧Below w.heap.size w wr)
  (fun i _=> l.length - (intOf i).toNat)
 case atStart=> exact ⟨0,Kcq _,rfl,hown1,hB1⟩
 case round=>
  obtain ⟨k,hk,rfl,hown,hBr⟩:=hrel
  by_cases hlt:k < l.length
  ·rcases hR with hR|⟨b,off,rfl,hbl,hcell⟩
   ·subst hR;simp at hlt
   obtain ⟨s,hxy⟩:∃s,l.getD k gt0=s:=⟨_,rfl⟩
   have hcx:=RdL.gt (C:=w.heap.size) hcell k hlt
   rw [hxy] at hcx
   have hc0:wr.cell? ⟨b,off+k * 4,none⟩=some (.int .i64 s.a):=(hBr.cell (p:=⟨b,off+k * 4,none⟩) hbl).trans hcx.1
   have hc1:wr.cell? ⟨b,off+k * 4+1,none⟩=some (.int .i64 s.p):=(hBr.cell (p:=⟨b,off+k * 4+1,none⟩) hbl).trans hcx.2.1
   have hc2:wr.cell? ⟨b,off+k * 4+2,none⟩=some (.int .i64 s.bk):=(hBr.cell (p:=⟨b,off+k * 4+2,none⟩) hbl).trans hcx.2.2.1
   have hc3:wr.cell? ⟨b,off+k * 4+3,none⟩=some (.int .i64 s.sq):=(hBr.cell (p:=⟨b,off+k * 4+3,none⟩) hbl).trans hcx.2.2.2
   have HW:=Q00 (hlt)
   clear hcell hcx
   go_wp2_with fail
   refine (Qd3 s _).mono ?_
   rintro e w2 ⟨rfl,hb2⟩
   have hB2:Below w.heap.size w w2:=hBr.trans (hb2.mono hBr.size)
   have hown2:=Q0a hown hb2
   have hln:((Q11 Q0I l k).flatMap Q0I.cs).length=l.length * 4:=by rw [Q0e,Q1t Q0I l k hk];rfl
   obtain ⟨u0,hu0⟩:∃u,w2.cell? ⟨w.heap.size,k * 4,none⟩=some u:=⟨_,(hown2.cellAt (k * 4) (by omega)).trans (List.getElem?_eq_getElem (by omega))⟩
   have hf0:=hown2.frozenAt (k * 4)
   obtain ⟨u1,hu1⟩:∃u,w2.cell? ⟨w.heap.size,k * 4+1,none⟩=some u:=⟨_,(hown2.cellAt (k * 4+1) (by omega)).trans (List.getElem?_eq_getElem (by omega))⟩
   have hf1:=hown2.frozenAt (k * 4+1)
   obtain ⟨u2,hu2⟩:∃u,w2.cell? ⟨w.heap.size,k * 4+2,none⟩=some u:=⟨_,(hown2.cellAt (k * 4+2) (by omega)).trans (List.getElem?_eq_getElem (by omega))⟩
   have hf2:=hown2.frozenAt (k * 4+2)
   obtain ⟨u3,hu3⟩:∃u,w2.cell? ⟨w.heap.size,k * 4+3,none⟩=some u:=⟨_,(hown2.cellAt (k * 4+3) (by omega)).trans (List.getElem?_eq_getElem (by omega))⟩
   have hf3:=hown2.frozenAt (k * 4+3)
   have HR:=Q00 (QfQ (k:=k) s (Kaq _) hown2 hB2)
   have HX:=Q00 (show (Q11 Q0I l k).set k s=Q11 Q0I l (k+1) by rw [←hxy];exact Q2n Q0I l k hlt)
   clear hxy hown hBr hB1 hown1 hown2 hc0 hc1 hc2 hc3 hb2 hln
   go_wp2
   go_roundw
   case rel=> exact ⟨k+1,by omega,by go_num,(by have:=HR.out.1;rw [HX.out] at this;exact this),HR.out.2⟩
   case measure=> simp [intOf];omega
  ·have e:k=l.length:=by omega
   subst e
   rw [Q2k] at hown
   go_wp2
   go_ret
   exact ⟨w.heap.size,rfl,hown,hBr⟩
theorem Qav (o1 o2:Option Addr) (c1 c2:Nat) (l:List Gt) (w:World) (h1:RdL Q0I w.heap.size w o1 l) (h2:RdL Q0I w.heap.size w o2 l) (hl:l.length≤1048576):
  Calls Tryz.prog 53 #[.slice o1 l.length c1,.slice o2 l.length c2] w fun e w'=> e=.returned (.bool true)∧Below w.heap.size w w':=by
 go_enter Tryz.func53,Tryz.ntmps53
 go_wp2
 go_loopw [5] (fun i wr=> ∃k:Nat,k≤l.length∧i=.int .i64 k∧Below w.heap.size w wr)
  (fun i _=> l.length - (intOf i).toNat)
 case atStart=> exact ⟨0,Kcq _,rfl,Below.refl _ _⟩
 case round=>
  obtain ⟨k,hk,rfl,hBr⟩:=hrel
  by_cases hlt:k < l.length
  ·rcases h1 with h1|⟨b1,off1,rfl,hb1,hcell1⟩
   ·subst h1;simp at hlt
   rcases h2 with h2|⟨b2,off2,rfl,hb2,hcell2⟩
   ·subst h2;simp at hlt
   obtain ⟨s,hxy⟩:∃s,l.getD k gt0=s:=⟨_,rfl⟩
   have hcx1:=RdL.gt (C:=w.heap.size) hcell1 k hlt
   have hcx2:=RdL.gt (C:=w.heap.size) hcell2 k hlt
   rw [hxy] at hcx1 hcx2
   have p0:wr.cell? ⟨b1,off1+k * 4,none⟩=some (.int .i64 s.a):=(hBr.cell (p:=⟨b1,off1+k * 4,none⟩) hb1).trans hcx1.1
   have p1:wr.cell? ⟨b1,off1+k * 4+1,none⟩=some (.int .i64 s.p):=(hBr.cell (p:=⟨b1,off1+k * 4+1,none⟩) hb1).trans hcx1.2.1
   have p2:wr.cell? ⟨b1,off1+k * 4+2,none⟩=some (.int .i64 s.bk):=(hBr.cell (p:=⟨b1,off1+k * 4+2,none⟩) hb1).trans hcx1.2.2.1
   have p3:wr.cell? ⟨b1,off1+k * 4+3,none⟩=some (.int .i64 s.sq):=(hBr.cell (p:=⟨b1,off1+k * 4+3,none⟩) hb1).trans hcx1.2.2.2
   have q0:wr.cell? ⟨b2,off2+k * 4,none⟩=some (.int .i64 s.a):=(hBr.cell (p:=⟨b2,off2+k * 4,none⟩) hb2).trans hcx2.1
   have q1:wr.cell? ⟨b2,off2+k * 4+1,none⟩=some (.int .i64 s.p):=(hBr.cell (p:=⟨b2,off2+k * 4+1,none⟩) hb2).trans hcx2.2.1
   have q2:wr.cell? ⟨b2,off2+k * 4+2,none⟩=some (.int .i64 s.bk):=(hBr.cell (p:=⟨b2,off2+k * 4+2,none⟩) hb2).trans hcx2.2.2.1
   have q3:wr.cell? ⟨b2,off2+k * 4+3,none⟩=some (.int .i64 s.sq):=(hBr.cell (p:=⟨b2,off2+k * 4+3,none⟩) hb2).trans hcx2.2.2.2
   have HB:=Q00 hBr
   have hsr:=Q00 hBr.size
   clear hcell1 hcell2 hBr hcx1 hcx2 hxy
   have i1:(k:Int) < (l.length:Int):=by omega
   go_wp2
   go_region_held3 (fun w'=> w'.cell? ⟨b1,off1+k * 4,none⟩=some (.int .i64 s.a)∧w'.cell? ⟨b1,off1+k * 4+1,none⟩=some (.int .i64 s.p)∧w'.cell? ⟨b1,off1+k * 4+2,none⟩=some (.int .i64 s.bk)∧w'.cell? ⟨b1,off1+k * 4+3,none⟩=some (.int .i64 s.sq)∧w'.cell? ⟨b2,off2+k * 4,none⟩=some (.int .i64 s.a)∧w'.cell? ⟨b2,off2+k * 4+1,none⟩=some (.int .i64 s.p)∧w'.cell? ⟨b2,off2+k * 4+2,none⟩=some (.int .i64 s.bk)∧w'.cell? ⟨b2,off2+k * 4+3,none⟩=some (.int .i64 s.sq)) (first|exact ⟨p0,p1,p2,p3,q0,q1,q2,q3⟩) (first|(go_at_call 110;refine (Qc5 s _).mono ?_;rintro e w2 ⟨rfl,hb2'⟩;replace hb2':Below wr.heap.size wr w2:=(Below.drew (Below.refl _ _)).trans hb2';have p0:=(hb2'.cell (p:=⟨b1,off1+k * 4,none⟩) (Kbq hb1 hsr.out)).trans p0;have p1:=(hb2'.cell (p:=⟨b1,off1+k * 4+1,none⟩) (Kbq hb1 hsr.out)).trans p1;have p2:=(hb2'.cell (p:=⟨b1,off1+k * 4+2,none⟩) (Kbq hb1 hsr.out)).trans p2;have p3:=(hb2'.cell (p:=⟨b1,off1+k * 4+3,none⟩) (Kbq hb1 hsr.out)).trans p3;have q0:=(hb2'.cell (p:=⟨b2,off2+k * 4,none⟩) (Kbq hb2 hsr.out)).trans q0;have q1:=(hb2'.cell (p:=⟨b2,off2+k * 4+1,none⟩) (Kbq hb2 hsr.out)).trans q1;have q2:=(hb2'.cell (p:=⟨b2,off2+k * 4+2,none⟩) (Kbq hb2 hsr.out)).trans q2;have q3:=(hb2'.cell (p:=⟨b2,off2+k * 4+3,none⟩) (Kbq hb2 hsr.out)).trans q3))
   go_wp2
   go_roundw
   case rel=> exact ⟨k+1,by omega,by go_num,HB.out.trans (hb2'.mono HB.out.size)⟩
   case measure=> simp [intOf];omega
  ·have e:k=l.length:=by omega
   subst e
   go_wp2
   go_ret
   exact ⟨rfl,hBr⟩
def QcF (k:Int):Gt:=⟨k,k+1,k+1+1,k+1+1+1⟩
theorem Q9y (base:Nat) (v:Value) (l:List Gt) (k:Int) (w:World) (hv:ownL Q0I 98 w base v l) (h0:0≤k) (h1:k≤1073741824) (hlen:l.length≤1048576):
  Calls Tryz.prog 62 #[v,.int .i64 k] w fun e w'=> e=.returned (.int .i64 (k+4 * l.length))∧ownL Q0I 98 w' base v (mkL QcF 4 k l.length)∧w.grownBy w' v.ownBlock:=by
 rcases hv.2 with ⟨rfl,h2⟩|⟨g,cap,cur,rfl,hg,_⟩
 ·have e:l=[]:=List.eq_nil_of_length_eq_zero h2
  subst e
  go_enter Tryz.func62,Tryz.ntmps62
  go_wp2
  refine wp_loop_rounds 1 ?_
  rw [rounds_succ]
  go_wp2
  go_ret
  exact ⟨by simp,by simpa [mkL] using hv,World.grownBy.refl _ _⟩
 ·have hv0:w.ownsRow base 98 4 (.slice (some ⟨g,0,none⟩) l.length cap) l.length ((Q3r QcF 4 l k 0).flatMap Q0I.cs):=by rw [Q3e];exact hv
  go_enter Tryz.func62,Tryz.ntmps62
  go_wp2
  go_loopw [1,5] (fun q j wr=> ∃i:Nat,i≤l.length∧j=.int .i64 i∧q=.int .i64 (k+4 * (i:Int))∧wr.ownsRow base 98 4 (.slice (some ⟨g,0,none⟩) l.length cap) l.length ((Q3r QcF 4 l k i).flatMap Q0I.cs)∧w.grownBy wr (some g))
   (fun _ j _=> l.length - (intOf j).toNat)
  case atStart=> exact ⟨0,Kcq _,rfl,by simp,hv0,World.grownBy.refl _ _⟩
  case round=>
   obtain ⟨i,hi,rfl,rfl,hown,hgr⟩:=hrel
   by_cases hlt:i < l.length
   ·have hxl:((Q3r QcF 4 l k i).flatMap Q0I.cs).length=l.length * 4:=by rw [Q0e,Q23 _ _ _ _ _ hi];rfl
    have E:=Q5O Q0I rfl (a:=QcF (k+4 * (i:Int))) rfl (Q3r QcF 4 l k i) i
    have E2:=Q49 QcF 4 l k i hlt
    have HE0:=E.trans (congrArg (fun z=> List.flatMap Q0I.cs z) E2)
    simp only [QcF] at HE0
    clear E E2
    generalize hxs:(Q3r QcF 4 l k i).flatMap Q0I.cs=xs at *
    have s1:=Q0x (j:=i * 4) (u:=.int .i64 (k+4 * (i:Int))) hown hgr
    have s2:=Q0x (j:=i * 4+1) (u:=.int .i64 (k+4 * (i:Int)+1)) s1.1 s1.2
    have s3:=Q0x (j:=i * 4+2) (u:=.int .i64 (k+4 * (i:Int)+1+1)) s2.1 s2.2
    have s4:=Q0x (j:=i * 4+3) (u:=.int .i64 (k+4 * (i:Int)+1+1+1)) s3.1 s3.2
    have f0:=hown.frozenAt (i * 4)
    obtain ⟨q0,hq0⟩:∃z,wr.cell? ⟨g,i * 4,none⟩=some z:=⟨_,(hown.cellAt (i * 4) (by omega)).trans (List.getElem?_eq_getElem (by (try simp) <;> omega))⟩
    have f1:=s1.1.frozenAt (i * 4+1)
    obtain ⟨q1,hq1⟩:∃z,(wr.setCell ⟨g,i * 4,none⟩ (.int .i64 (k+4 * (i:Int)))).cell? ⟨g,i * 4+1,none⟩=some z:=⟨_,(s1.1.cellAt (i * 4+1) (by omega)).trans (List.getElem?_eq_getElem (by (try simp) <;> omega))⟩
    have f2:=s2.1.frozenAt (i * 4+2)
    obtain ⟨q2,hq2⟩:∃z,((wr.setCell ⟨g,i * 4,none⟩ (.int .i64 (k+4 * (i:Int)))).setCell ⟨g,i * 4+1,none⟩ (.int .i64 (k+4 * (i:Int)+1))).cell? ⟨g,i * 4+2,none⟩=some z:=⟨_,(s2.1.cellAt (i * 4+2) (by omega)).trans (List.getElem?_eq_getElem (by (try simp) <;> omega))⟩
    have f3:=s3.1.frozenAt (i * 4+3)
    obtain ⟨q3,hq3⟩:∃z,(((wr.setCell ⟨g,i * 4,none⟩ (.int .i64 (k+4 * (i:Int)))).setCell ⟨g,i * 4+1,none⟩ (.int .i64 (k+4 * (i:Int)+1))).setCell ⟨g,i * 4+2,none⟩ (.int .i64 (k+4 * (i:Int)+1+1))).cell? ⟨g,i * 4+3,none⟩=some z:=⟨_,(s3.1.cellAt (i * 4+3) (by omega)).trans (List.getElem?_eq_getElem (by (try simp) <;> omega))⟩
    have S:=Q00 s4
    have HE:=Q00 HE0
    have z1:(i:Int) < (l.length:Int):=by omega
    clear s1 s2 s3 s4 hown hgr hv hv0 HE0 hxl
    go_wp2
    go_roundw
    case rel=>
     refine ⟨i+1,by omega,by go_num,by go_num, ?_,S.out.2⟩
     have h:=S.out.1
     rw [←HE.out]
     exact h
    case measure=> simp [intOf];omega
   ·have e:i=l.length:=by omega
    subst e
    rw [Q47] at hown
    have HO:=Q00 hown
    clear hown
    go_wp2
    go_ret
    exact ⟨rfl,(by have:=HO.out;unfold ownL;rw [Q1s];exact this),hgr⟩
def QeO (k:Int):Bk:=(k,k+1,(k+1+1) % 3==0)
theorem Q6u (base:Nat) (v:Value) (l:List _) (k:Int) (w:World) (hv:ownL Q0F 226 w base v l) (h0:0≤k) (h1:k≤1073741824) (hlen:l.length≤1048576):
  Calls Tryz.prog 178 #[v,.int .i64 k] w fun e w'=> e=.returned (.int .i64 (k+3 * l.length))∧ownL Q0F 226 w' base v (mkL QeO 3 k l.length)∧w.grownBy w' v.ownBlock:=by
 rcases hv.2 with ⟨rfl,h2⟩|⟨g,cap,cur,rfl,hg,_⟩
 ·have e:l=[]:=List.eq_nil_of_length_eq_zero h2
  subst e
  go_enter Tryz.func178,Tryz.ntmps178
  go_wp2
  refine wp_loop_rounds 1 ?_
  rw [rounds_succ]
  go_wp2
  go_ret
  exact ⟨by simp,by simpa [mkL] using hv,World.grownBy.refl _ _⟩
 ·have hv0:w.ownsRow base 226 3 (.slice (some ⟨g,0,none⟩) l.length cap) l.length ((Q3r QeO 3 l k 0).flatMap Q0F.cs):=by rw [Q3e];exact hv
  go_enter Tryz.func178,Tryz.ntmps178
  go_wp2
  go_loopw [1,5] (fun q j wr=> ∃i:Nat,i≤l.length∧j=.int .i64 i∧q=.int .i64 (k+3 * (i:Int))∧wr.ownsRow base 226 3 (.slice (some ⟨g,0,none⟩) l.length cap) l.length ((Q3r QeO 3 l k i).flatMap Q0F.cs)∧w.grownBy wr (some g))
   (fun _ j _=> l.length - (intOf j).toNat)
  case atStart=> exact ⟨0,Kcq _,rfl,by simp,hv0,World.grownBy.refl _ _⟩
  case round=>
   obtain ⟨i,hi,rfl,rfl,hown,hgr⟩:=hrel
   by_cases hlt:i < l.length
   ·have hxl:((Q3r QeO 3 l k i).flatMap Q0F.cs).length=l.length * 3:=by rw [Q0e,Q23 _ _ _ _ _ hi];rfl
    have E:=Q2r Q0F rfl (a:=QeO (k+3 * (i:Int))) rfl (Q3r QeO 3 l k i) i
    have E2:=Q49 QeO 3 l k i hlt
    generalize hxs:(Q3r QeO 3 l k i).flatMap Q0F.cs=xs at *
    have s1:=Q0x (j:=i * 3) (u:=.int .i64 (k+3 * (i:Int))) hown hgr
    have s2:=Q0x (j:=i * 3+1) (u:=.int .i64 (k+3 * (i:Int)+1)) s1.1 s1.2
    have s3:=Q0x (j:=i * 3+2) (u:=.bool ((k+3 * (i:Int)+1+1) % 3==0)) s2.1 s2.2
    have f0:=hown.frozenAt (i * 3)
    obtain ⟨q0,hq0⟩:∃z,wr.cell? ⟨g,i * 3,none⟩=some z:=⟨_,(hown.cellAt (i * 3) (by omega)).trans (List.getElem?_eq_getElem (by (try simp) <;> omega))⟩
    have f1:=s1.1.frozenAt (i * 3+1)
    obtain ⟨q1,hq1⟩:∃z,(wr.setCell ⟨g,i * 3,none⟩ (.int .i64 (k+3 * (i:Int)))).cell? ⟨g,i * 3+1,none⟩=some z:=⟨_,(s1.1.cellAt (i * 3+1) (by omega)).trans (List.getElem?_eq_getElem (by (try simp) <;> omega))⟩
    have f2:=s2.1.frozenAt (i * 3+2)
    obtain ⟨q2,hq2⟩:∃z,((wr.setCell ⟨g,i * 3,none⟩ (.int .i64 (k+3 * (i:Int)))).setCell ⟨g,i * 3+1,none⟩ (.int .i64 (k+3 * (i:Int)+1))).cell? ⟨g,i * 3+2,none⟩=some z:=⟨_,(s2.1.cellAt (i * 3+2) (by omega)).trans (List.getElem?_eq_getElem (by (try simp) <;> omega))⟩
    have S:=Q00 s3
    have HE:=Q00 (E.trans (congrArg (fun z=> List.flatMap Q0F.cs z) E2))
    have z1:(i:Int) < (l.length:Int):=by omega
    clear s1 s2 s3 hown hgr hv hv0 E E2 hxl
    go_wp2
    go_roundw
    case rel=>
     refine ⟨i+1,by omega,by go_num,by go_num, ?_,S.out.2⟩
     have h:=S.out.1
     rw [←HE.out]
     exact h
    case measure=> simp [intOf];omega
   ·have e:i=l.length:=by omega
    subst e
    rw [Q47] at hown
    have HO:=Q00 hown
    clear hown
    go_wp2
    go_ret
    exact ⟨rfl,(by have:=HO.out;unfold ownL;rw [Q1s];exact this),hgr⟩
def Q1J (n:Nat) (a p:Int):Nat:=((a * 31+p) % (n:Int)).toNat
theorem Q2D {n:Nat} (hn:0 < n) (a p:Int):Q1J n a p < n:=by
 unfold Q1J
 have h1:=Int.emod_nonneg (a * 31+p) (show (n:Int)≠0 by omega)
 have h2:=Int.emod_lt_of_pos (a * 31+p) (show (0:Int) < n by omega)
 omega
theorem Qcn {n:Nat} (hn:0 < n) (a p:Int):((Q1J n a p:Nat):Int)=(a * 31+p) % (n:Int):=by
 unfold Q1J
 have h1:=Int.emod_nonneg (a * 31+p) (show (n:Int)≠0 by omega)
 omega
theorem Q7d {n:Nat} (hn:0 < n) {a p:Int} (h:Q0n a p=true):(a * 31+p).tmod (n:Int)=((Q1J n a p:Nat):Int):=by
 rw [Qcn hn,Int.tmod_eq_emod_of_nonneg]
 have:=Q3E.1 h
 omega
theorem Qa7 {n:Nat} (hn:0 < n) {a p:Int} (h:Q0n a p=true):(31 * a+p).tmod (n:Int)=((Q1J n a p:Nat):Int):=by
 rw [Int.mul_comm];exact Q7d hn h
theorem Q9M (n i:Nat):((i:Int)+1).tmod (n:Int)=(((i+1) % n:Nat):Int):=by
 rw [Int.tmod_eq_emod_of_nonneg (by omega)];simp
def Qhu (n i k:Nat):Nat:=(k+n - i) % n
theorem Q5W {n:Nat} (hn:0 < n) (i:Nat):(i+1) % n < n:=Nat.mod_lt _ hn
def Q3D (l:List Sl) (a p:Int):Nat→Nat→Int × Bool
 |0,_=> (-1,false)
 |f+1,i=> if (l.getD i sl0).u=true then (if (l.getD i sl0).a=a∧(l.getD i sl0).p=p then ((i:Int),true) else Q3D l a p f ((i+1) % l.length)) else ((i:Int),false)
def Q4Y (l:List Sl) (a p:Int):Int × Bool:=Q3D l a p l.length (Q1J l.length a p)
theorem Q4P {l:List Sl} {a p:Int} {f i:Nat} (h:(l.getD i sl0).u=false):Q3D l a p (f+1) i=((i:Int),false):=by simp only [Q3D,h];simp
theorem Q6c {l:List Sl} {a p:Int} {f i:Nat} (h:(l.getD i sl0).u=true) (h1:(l.getD i sl0).a=a) (h2:(l.getD i sl0).p=p):Q3D l a p (f+1) i=((i:Int),true):=by simp only [Q3D,h,h1,h2];simp
theorem Q4A {l:List Sl} {a p:Int} {f i:Nat} (h:(l.getD i sl0).u=true) (h1:¬((l.getD i sl0).a=a∧(l.getD i sl0).p=p)):Q3D l a p (f+1) i=Q3D l a p f ((i+1) % l.length):=by simp only [Q3D,h,h1];simp
theorem Q5Q (l:List Sl) (hn:0 < l.length) (a p:Int):∀(f i:Nat),i < l.length→Q3D l a p f i=(-1,false)∨∃k,k < l.length∧((Q3D l a p f i=((k:Int),false)∧(l.getD k sl0).u=false)∨(Q3D l a p f i=((k:Int),true)∧(l.getD k sl0).u=true∧(l.getD k sl0).a=a∧(l.getD k sl0).p=p))
 |0,i,_=> .inl rfl
 |f+1,i,hi=> by
  cases hu:(l.getD i sl0).u with
  |false=> exact .inr ⟨i,hi,.inl ⟨Q4P hu,hu⟩⟩
  |true=>
   by_cases h:(l.getD i sl0).a=a∧(l.getD i sl0).p=p
   ·exact .inr ⟨i,hi,.inr ⟨Q6c hu h.1 h.2,hu,h.1,h.2⟩⟩
   ·rw [Q4A hu h]
    exact Q5Q l hn a p f _ (Q5W hn i)
theorem Qc0 (l:List Sl) (hn:0 < l.length) (a p:Int):Q4Y l a p=(-1,false)∨∃k,k < l.length∧((Q4Y l a p=((k:Int),false)∧(l.getD k sl0).u=false)∨(Q4Y l a p=((k:Int),true)∧(l.getD k sl0).u=true∧(l.getD k sl0).a=a∧(l.getD k sl0).p=p)):=
 Q5Q l hn a p _ _ (Q2D hn a p)
def Q1S (s:Sl):Bool:=if s.u=true then Q0n s.a s.p && decide (0≤s.v) && decide (s.v≤100000) && decide (0≤s.t) && decide (s.t≤200000) else decide (s.a=0) && decide (s.p=0) && decide (s.v=0) && decide (s.t=0)
theorem Q7l {s:Sl} (h:s.u=true):Q1S s=true↔Q0n s.a s.p=true∧0≤s.v∧s.v≤100000∧0≤s.t∧s.t≤200000:=by simp [Q1S,h,and_assoc]
theorem Qch {s:Sl} (h:s.u=false):Q1S s=true↔s=sl0:=by
 obtain ⟨u,a,p,v,t⟩:=s
 simp at h;subst h
 simp [Q1S,and_assoc]
def Q9R (l:List Sl) (i:Nat):Bool:= !(l.getD i sl0).u||(Q4Y l (l.getD i sl0).a (l.getD i sl0).p==((i:Int),true))
def Q32 (l:List Sl) (i:Nat):Bool:=Q1S (l.getD i sl0) && Q9R l i
def Q0i (l:List Sl):Bool:=decide (1≤l.length) && decide (l.length≤16) && (List.range l.length).all (Q32 l)
theorem Q0Z {l:List Sl}:Q0i l=true↔1≤l.length∧l.length≤16∧∀i,i < l.length→Q32 l i=true:=by simp [Q0i,and_assoc]
theorem Q9N {l:List Sl} (h1:1≤l.length) (h2:l.length≤16) (h:∀i,i < l.length→Q32 l i=true):true=Q0i l:=(Q0Z.2 ⟨h1,h2,h⟩).symm
theorem Q26 {l:List Sl} {i:Nat} (hi:i < l.length) (h:Q32 l i=false):false=Q0i l:=by
 cases hb:Q0i l with
 |false=> rfl
 |true=> rw [(Q0Z.1 hb).2.2 i hi] at h;cases h
theorem Q51 {l:List Sl} (h:¬(1≤l.length∧l.length≤16)):false=Q0i l:=by
 cases hb:Q0i l with
 |false=> rfl
 |true=> exact absurd ⟨(Q0Z.1 hb).1,(Q0Z.1 hb).2.1⟩ h
theorem Q3q {l:List Sl} {i:Nat} (h:Q1S (l.getD i sl0)=false):Q32 l i=false:=by unfold Q32;rw [h];rfl
theorem Qdn {l:List Sl} {i:Nat} (hu:(l.getD i sl0).u=true) (h:Q4Y l (l.getD i sl0).a (l.getD i sl0).p≠((i:Int),true)):Q32 l i=false:=by unfold Q32 Q9R;rw [hu,beq_eq_false_iff_ne.2 h];cases Q1S (l.getD i sl0) <;> rfl
theorem Qbz {l:List Sl} {i:Nat} (hu:(l.getD i sl0).u=false) (h:Q1S (l.getD i sl0)=true):Q32 l i=true:=by unfold Q32 Q9R;rw [hu,h];rfl
theorem Qc7 {l:List Sl} {i:Nat} (h:Q1S (l.getD i sl0)=true) (h':Q4Y l (l.getD i sl0).a (l.getD i sl0).p=((i:Int),true)):Q32 l i=true:=by unfold Q32 Q9R;rw [h,h'];cases (l.getD i sl0).u <;> simp
def Qfv (l:List Sl) (k:Nat):Prop:=∀i,i < k→Q32 l i=true
theorem Q7g {l:List Sl} {k:Nat} (h:Qfv l k) (hk:Q32 l k=true):Qfv l (k+1):=fun i hi=> by
 rcases Nat.lt_succ_iff_lt_or_eq.1 hi with h1|h1
 ·exact h i h1
 ·rw [h1];exact hk
def Q8Z (l:List Sl) (k:Nat):Prop:=∀i,i < k→Q1S (l.getD i sl0)=true
theorem Qa4 {l:List Sl} {k:Nat} (h:Q8Z l k) (hk:Q1S (l.getD k sl0)=true):Q8Z l (k+1):=fun i hi=> by
 rcases Nat.lt_succ_iff_lt_or_eq.1 hi with h1|h1
 ·exact h i h1
 ·rw [h1];exact hk
def wt (n:Nat) (l:List Sl) (j:Nat):Nat:=if (l.getD j sl0).u=true then Qhu n (Q1J n (l.getD j sl0).a (l.getD j sl0).p) j else 0
theorem Q9d {a n:Nat} (h:a < n):a % n=a:=Nat.mod_eq_of_lt h
abbrev Qft (a p:Int):Value:=.agg #[.int .i64 a,.int .i64 p]
theorem Qcp (n:Nat) (a p:Int) (w:World) (hn:0 < n) (hl:n≤1048576) (hf:Q0n a p=true):
  Calls Tryz.prog 192 #[.int .i64 n,Qft a p] w fun e w'=> e=.returned (.int .i64 (Q1J n a p))∧Below w.heap.size w w':=by
 have hB:Below w.heap.size w w:=Below.refl _ _
 have hh:=Q7d hn hf
 have hlt:=Q2D hn a p
 have h0:=Q3E.1 hf
 have hne:¬((n:Int)=0):=by omega
 have hne':((n:Int)==0)=false:=by simpa using hne
 obtain ⟨h1,h2,h3,h4⟩:=h0
 go_enter Tryz.func192,Tryz.ntmps192
 go_wp2
 go_ret
 exact ⟨rfl,by (repeat (first|with_reducible (first|exact hB|exact Below.refl _ _|refine Below.drew ?_|refine below_drewN ?_ _|refine Below.alloc ?_ ?_ _|refine Below.setCell ?_ ?_ _)|(focus (simp;first|done|omega))|omega))⟩
theorem Qfc (o:Option Addr) (c:Nat) (l:List Sl) (a p:Int) (w:World) (hR:RdS w.heap.size w o l) (hn:0 < l.length) (hl:l.length≤1048576) (hf:Q0n a p=true):
  Calls Tryz.prog 148 #[tab (.slice o l.length c),Qft a p] w fun e w'=> e=.returned (.tuple #[.int .i64 (Q4Y l a p).1,.bool (Q4Y l a p).2])∧Below w.heap.size w w':=by
 rcases hR with hR|⟨b,off,rfl,hbl,hcell⟩
 ·subst hR;simp at hn
 have hB:Below w.heap.size w w:=Below.refl _ _
 have HC:=Q00 hcell
 clear hcell
 go_enter Tryz.func148,Tryz.ntmps148
 go_wp2_with fail;go_at_call 192;refine (Qcp l.length a p _ hn hl hf).mono ?_;rintro e w1a ⟨rfl,hba⟩;obtain ⟨hca,hfa⟩:=Q0B hba;have hz0a:w.heap.size < w1a.heap.size:=(by have hz:=hba.size;(try simp at hz);omega);have hz1a:w.heap.size+1 < w1a.heap.size:=(by have hz:=hba.size;(try simp at hz);omega);have hB:Below w.heap.size w w1a:=(by refine Below.trans ?_ (hba.mono (by have hs:=hB.size;(try simp) <;> omega));(repeat (first|with_reducible (first|exact hB|exact Below.refl _ _|refine Below.drew ?_|refine below_drewN ?_ _|refine Below.alloc ?_ ?_ _|refine Below.setCell ?_ ?_ _)|(focus (simp;first|done|omega))|omega)))
 have hc0:w1a.cell? ⟨w.heap.size,0,none⟩=some (.slice (some ⟨b,off,none⟩) l.length c):=by rw [hca _ _ (by (try simp) <;> omega)];simp [go_sem]
 have hc1:w1a.cell? ⟨w.heap.size+1,0,none⟩=some (.int .i64 a):=by rw [hca _ _ (by (try simp) <;> omega)];simp [go_sem]
 have hc2:w1a.cell? ⟨w.heap.size+1,1,none⟩=some (.int .i64 p):=by rw [hca _ _ (by (try simp) <;> omega)];simp [go_sem]
 have HB:=Q00 hB
 clear hB hca hfa hba
 have hh:=Q2D hn a p
 have HE:=Q00 (show Q3D l a p l.length (Q1J l.length a p)=Q4Y l a p from rfl)
 generalize Q1J l.length a p=h at *
 go_wp2
 go_loopw [7,8] (fun i k wr=> ∃(i' k':Nat),k'≤l.length∧i' < l.length∧i=.int .i64 i'∧k=.int .i64 k'∧Hid (Q3D l a p (l.length - k') i'=Q4Y l a p)∧Hid (Below w1a.heap.size w1a wr))
  (fun _ k _=> l.length - (intOf k).toNat)
 case atStart=> exact ⟨h,0,Kcq _,hh,rfl,rfl,HE,Below.refl _ _⟩
 case round=>
  obtain ⟨i,k,hk,hi,rfl,rfl,hE,HBr⟩:=hrel
  have d0:wr.cell? ⟨w.heap.size,0,none⟩=some (.slice (some ⟨b,off,none⟩) l.length c):=(HBr.out.cell (p:=⟨w.heap.size,0,none⟩) hz0a).trans hc0
  have d1:wr.cell? ⟨w.heap.size+1,0,none⟩=some (.int .i64 a):=(HBr.out.cell (p:=⟨w.heap.size+1,0,none⟩) hz1a).trans hc1
  have d2:wr.cell? ⟨w.heap.size+1,1,none⟩=some (.int .i64 p):=(HBr.out.cell (p:=⟨w.heap.size+1,1,none⟩) hz1a).trans hc2
  have HB2:=Q00 (HB.out.trans (HBr.out.mono HB.out.size))
  by_cases hlt:k < l.length
  ·obtain ⟨s,hxy⟩:∃s,l.getD i sl0=s:=⟨_,rfl⟩
   have hcx:=RdL.slot (C:=w.heap.size) HC.out i hi
   rw [hxy] at hcx
   have e0:wr.cell? ⟨b,off+i * 5,none⟩=some (.bool s.u):=(HB2.out.cell (p:=⟨b,off+i * 5,none⟩) hbl).trans hcx.1
   have e1:wr.cell? ⟨b,off+i * 5+1,none⟩=some (.int .i64 s.a):=(HB2.out.cell (p:=⟨b,off+i * 5+1,none⟩) hbl).trans hcx.2.1
   have e2:wr.cell? ⟨b,off+i * 5+2,none⟩=some (.int .i64 s.p):=(HB2.out.cell (p:=⟨b,off+i * 5+2,none⟩) hbl).trans hcx.2.2.1
   have hi':(i:Int) < (l.length:Int):=by omega
   have hk':(k:Int) < (l.length:Int):=by omega
   have hne':((l.length:Int)==0)=false:=beq_eq_false_iff_ne.2 (by omega)
   have hm:=Q9M l.length i
   have ek:l.length - k=(l.length - (k+1))+1:=by omega
   rw [ek] at hE
   obtain ⟨su,sa,sp,sv,st⟩:=s
   simp only at e0 e1 e2
   clear hcx hc0 hc1 hc2 HC
   cases su with
   |false=>
    have HF:=Q00 (hE.out.symm.trans (Q4P (by rw [hxy])))
    clear hE hxy ek
    go_wp2
    go_ret2
    exact ⟨by rw [HF.out];rfl,HB2.out⟩
   |true=>
    by_cases hq:sa=a∧sp=p
    ·have HF:=Q00 (hE.out.symm.trans (Q6c (by rw [hxy]) (by rw [hxy];exact hq.1) (by rw [hxy];exact hq.2)))
     obtain ⟨rfl,rfl⟩:=hq
     clear hE hxy ek
     go_wp2
     go_region
     go_wp2
     go_ret2
     exact ⟨by rw [HF.out];rfl,Below.drew HB2.out⟩
    ·have HF:=Q00 (hE.out.symm.trans (Q4A (by rw [hxy]) (by rw [hxy];exact hq))).symm
     clear hE hxy ek
     have hx:(k+1≤l.length):=by omega
     by_cases hq1:sa=a
     ·subst hq1
      have hq2:¬sp=p:=fun e=> hq ⟨rfl,e⟩
      have hq3:(sp==p)=false:=beq_eq_false_iff_ne.2 hq2
      clear hq
      go_wp2
      go_region
      go_wp2
      go_roundw
      case rel=> exact ⟨(i+1) % l.length,k+1,hx,Q5W hn i,by go_num,by go_num,HF,Below.drew HBr.out⟩
      case measure=> simp [intOf];omega
     ·have hq3:(sa==a)=false:=beq_eq_false_iff_ne.2 hq1
      clear hq
      go_wp2
      go_region
      go_wp2
      go_roundw
      case rel=> exact ⟨(i+1) % l.length,k+1,hx,Q5W hn i,by go_num,by go_num,HF,Below.drew HBr.out⟩
      case measure=> simp [intOf];omega
  ·have e:k=l.length:=by omega
   subst e
   have HF:=Q00 (show Q4Y l a p=(-1,false) from hE.out.symm.trans (by rw [Nat.sub_self];rfl))
   clear hE
   go_wp2
   go_ret2
   exact ⟨by rw [HF.out];rfl,HB2.out⟩
theorem Q21 (o:Option Addr) (c:Nat) (l:List Sl) (w:World) (hR:RdS w.heap.size w o l) (hl:l.length≤1048576):
  Calls Tryz.prog 89 #[tab (.slice o l.length c)] w fun e w'=> e=.returned (.bool (Q0i l))∧Below w.heap.size w w':=by
 have hB:Below w.heap.size w w:=Below.refl _ _
 by_cases hlen:1≤l.length∧l.length≤16
 ·obtain ⟨hn,h16⟩:=hlen
  rcases hR with hR|⟨b,off,rfl,hbl,hcell⟩
  ·subst hR;simp at hn
  have HC:=Q00 hcell
  have i1:¬((l.length:Int) < 1):=by omega
  have i2:¬(16 < (l.length:Int)):=by omega
  have h0:Hid (Below w.heap.size w (w.alloc (.cells #[.slice (some ⟨b,off,none⟩) l.length c] 49))):=hB.alloc (Kaq _) _
  have hb0:Hid ((w.alloc (.cells #[.slice (some ⟨b,off,none⟩) l.length c] 49)).cell? ⟨w.heap.size,0,none⟩=some (.slice (some ⟨b,off,none⟩) l.length c)):=by simp [Q00,go_sem,Hid]
  have hz0:w.heap.size < (w.alloc (.cells #[.slice (some ⟨b,off,none⟩) l.length c] 49)).heap.size:=by simp
  clear hcell hB
  go_enter Tryz.func89,Tryz.ntmps89
  go_wp2
  generalize w.alloc (.cells #[.slice (some ⟨b,off,none⟩) l.length c] 49)=w0 at *
  go_loopw [3] (fun i wr=> ∃k:Nat,k≤l.length∧i=.int .i64 k∧Hid (Qfv l k)∧Hid (Below w0.heap.size w0 wr))
   (fun i _=> l.length - (intOf i).toNat)
  case atStart=> exact ⟨0,Kcq _,rfl,fun i hi=> absurd hi (Nat.not_lt_zero _),Below.refl _ _⟩
  case round=>
   obtain ⟨k,hk,rfl,hT,HBr⟩:=hrel
   have d0:wr.cell? ⟨w.heap.size,0,none⟩=some (.slice (some ⟨b,off,none⟩) l.length c):=(HBr.out.cell (p:=⟨w.heap.size,0,none⟩) hz0).trans hb0.out
   have HB2:=Q00 (h0.out.trans (HBr.out.mono h0.out.size))
   have hs1:w0.heap.size≤wr.heap.size:=HBr.out.size
   by_cases hlt:k < l.length
   ·obtain ⟨s,hxy⟩:∃s,l.getD k sl0=s:=⟨_,rfl⟩
    have hcx:=RdL.slot (C:=w.heap.size) HC.out k hlt
    rw [hxy] at hcx
    have e0:wr.cell? ⟨b,off+k * 5,none⟩=some (.bool s.u):=(HB2.out.cell (p:=⟨b,off+k * 5,none⟩) hbl).trans hcx.1
    have e1:wr.cell? ⟨b,off+k * 5+1,none⟩=some (.int .i64 s.a):=(HB2.out.cell (p:=⟨b,off+k * 5+1,none⟩) hbl).trans hcx.2.1
    have e2:wr.cell? ⟨b,off+k * 5+2,none⟩=some (.int .i64 s.p):=(HB2.out.cell (p:=⟨b,off+k * 5+2,none⟩) hbl).trans hcx.2.2.1
    have e3:wr.cell? ⟨b,off+k * 5+3,none⟩=some (.int .i64 s.v):=(HB2.out.cell (p:=⟨b,off+k * 5+3,none⟩) hbl).trans hcx.2.2.2.1
    have e4:wr.cell? ⟨b,off+k * 5+4,none⟩=some (.int .i64 s.t):=(HB2.out.cell (p:=⟨b,off+k * 5+4,none⟩) hbl).trans hcx.2.2.2.2
    have hk':(k:Int) < (l.length:Int):=by omega
    have HX:=Q00 hxy
    clear hcx hxy
    obtain ⟨su,sa,sp,sv,st⟩:=s
    simp only at e0 e1 e2 e3 e4
    cases su with
    |false=>
     by_cases hz:sa=0∧sp=0∧sv=0∧st=0
     ·obtain ⟨rfl,rfl,rfl,rfl⟩:=hz
      have HT:=Q00 (Q7g hT.out (Qbz (by rw [HX.out]) ((Qch (by rw [HX.out])).2 HX.out)))
      clear hT
      go_wp2
      go_roundw
      case rel=> exact ⟨k+1,hlt,by go_num,HT,show Below _ _ _ by have hB:=HBr.out;(repeat (first|with_reducible (first|exact hB|exact Below.refl _ _|refine Below.drew ?_|refine below_drewN ?_ _|refine Below.alloc ?_ ?_ _|refine Below.setCell ?_ ?_ _)|(focus (simp;first|done|omega))|omega))⟩
      case measure=> simp [intOf];omega
     ·have HN:=Q00 (Q26 hlt (Q3q (by rw [HX.out];simp [Q1S];intro h1 h2 h3 h4;exact hz ⟨h1,h2,h3,h4⟩)))
      clear hT
      go_wp2
      all_goals go_ret
      all_goals exact ⟨Q02 HN.out,by have hB:=HB2.out;(repeat (first|with_reducible (first|exact hB|exact Below.refl _ _|refine Below.drew ?_|refine below_drewN ?_ _|refine Below.alloc ?_ ?_ _|refine Below.setCell ?_ ?_ _)|(focus (simp;first|done|omega))|omega))⟩
    |true=>
     obtain ⟨W1,hW1⟩:∃W,wr.alloc (.cells #[.bool true,.int .i64 sa,.int .i64 sp,.int .i64 sv,.int .i64 st] 165)=W:=⟨_,rfl⟩
     have hbW:Hid (Below wr.heap.size wr W1):=by rw [←hW1];exact (Below.refl _ _).alloc (Kaq _) _
     have hzW:wr.heap.size < W1.heap.size:=by rw [←hW1];simp
     have c0:W1.cell? ⟨wr.heap.size,0,none⟩=some (.bool true):=by rw [←hW1];simp [go_sem]
     have c1:W1.cell? ⟨wr.heap.size,1,none⟩=some (.int .i64 sa):=by rw [←hW1];simp [go_sem]
     have c2:W1.cell? ⟨wr.heap.size,2,none⟩=some (.int .i64 sp):=by rw [←hW1];simp [go_sem]
     have c3:W1.cell? ⟨wr.heap.size,3,none⟩=some (.int .i64 sv):=by rw [←hW1];simp [go_sem]
     have c4:W1.cell? ⟨wr.heap.size,4,none⟩=some (.int .i64 st):=by rw [←hW1];simp [go_sem]
     have c5:W1.cell? ⟨w.heap.size,0,none⟩=some (.slice (some ⟨b,off,none⟩) l.length c):=(hbW.out.cell (p:=⟨w.heap.size,0,none⟩) (show w.heap.size < wr.heap.size by omega)).trans d0
     have hz3:w.heap.size < W1.heap.size:=by omega
     have HBW:=Q00 (HB2.out.trans (hbW.out.mono HB2.out.size))
     have HW:=Q00 (HBr.out.trans (hbW.out.mono HBr.out.size))
     have hfl:=Q0u sa sp W1
     cases hfo:Q0n sa sp with
     |false=>
      have HN:=Q00 (Q26 hlt (Q3q (by rw [HX.out];simp [Q1S,hfo])))
      rw [hfo] at hfl
      clear hT hfo
      go_wp2_with (go_at_call 44;refine hfl.mono ?_;rintro e w2 ⟨rfl,hb2⟩;have HB3:=Q00 (HBW.out.trans (hb2.mono HBW.out.size));have m0:=(hb2.cell (p:=⟨wr.heap.size,0,none⟩) hzW).trans c0;have m2:=(hb2.cell (p:=⟨wr.heap.size,3,none⟩) hzW).trans c3;have m3:=(hb2.cell (p:=⟨wr.heap.size,4,none⟩) hzW).trans c4;clear hb2)
      all_goals go_ret
      all_goals exact ⟨Q02 HN.out,HB3.out⟩
     |true=>
      rw [hfo] at hfl
      by_cases hv:0≤sv∧sv≤100000∧0≤st∧st≤200000
      ·obtain ⟨v1,v2,v3,v4⟩:=hv
       have g1:¬sv < 0:=by omega
       have g2:¬100000 < sv:=by omega
       have g3:¬st < 0:=by omega
       have g4:¬200000 < st:=by omega
       have HS:=Q00 ((Q7l (s:=l.getD k sl0) (by rw [HX.out])).2 (by rw [HX.out];exact ⟨hfo,v1,v2,v3,v4⟩))
       have HF:=Q00 hfo
       clear hfo v1 v2 v3 v4
       have hat:=fun W hr=> Qfc (some ⟨b,off,none⟩) c l sa sp W hr (by omega) hl HF.out
       by_cases hE:Q4Y l sa sp=((k:Int),true)
       ·have HT:=Q00 (Q7g hT.out (Qc7 HS.out (by rw [HX.out];exact hE)))
        rw [hE] at hat
        clear hT hE
        go_wp2_with (first|(go_at_call 44;refine hfl.mono ?_;rintro e w2 ⟨rfl,hb2⟩;have HB3:=Q00 (HBW.out.trans (hb2.mono HBW.out.size));have HB4:=Q00 (HW.out.trans (hb2.mono HW.out.size));have m0:=(hb2.cell (p:=⟨wr.heap.size,0,none⟩) hzW).trans c0;have m1:=(hb2.cell (p:=⟨wr.heap.size,1,none⟩) hzW).trans c1;have m4:=(hb2.cell (p:=⟨wr.heap.size,2,none⟩) hzW).trans c2;have m2:=(hb2.cell (p:=⟨wr.heap.size,3,none⟩) hzW).trans c3;have m3:=(hb2.cell (p:=⟨wr.heap.size,4,none⟩) hzW).trans c4;have m5:=(hb2.cell (p:=⟨w.heap.size,0,none⟩) hz3).trans c5;have hz2:=hb2.size;clear hb2)|(go_at_call 148;refine (hat _ (.inr ⟨b,off,rfl,by omega,fun i hi j hj=> (HB3.out.cell (p:=⟨b,off+i * Q0t.k+j,none⟩) hbl).trans (HC.out i hi j hj)⟩)).mono ?_;rintro e w3 ⟨rfl,hb3⟩;have HB5:=Q00 (HB4.out.trans (hb3.mono HB4.out.size));clear hb3))
        go_roundw
        case rel=> exact ⟨k+1,hlt,by go_num,HT,HB5⟩
        case measure=> simp [intOf];omega
       ·have HN:=Q00 (Q26 hlt (Qdn (by rw [HX.out]) (by rw [HX.out];exact hE)))
        generalize hEE:Q4Y l sa sp=E at *
        obtain ⟨E1,E2⟩:=E
        have hE':E2=true→¬E1=(k:Int):=fun h1 h2=> hE (by rw [h1,h2])
        clear hT hE hEE
        cases E2 with
        |false=>
         go_wp2_with (first|(go_at_call 44;refine hfl.mono ?_;rintro e w2 ⟨rfl,hb2⟩;have HB3:=Q00 (HBW.out.trans (hb2.mono HBW.out.size));have HB4:=Q00 (HW.out.trans (hb2.mono HW.out.size));have m0:=(hb2.cell (p:=⟨wr.heap.size,0,none⟩) hzW).trans c0;have m1:=(hb2.cell (p:=⟨wr.heap.size,1,none⟩) hzW).trans c1;have m4:=(hb2.cell (p:=⟨wr.heap.size,2,none⟩) hzW).trans c2;have m2:=(hb2.cell (p:=⟨wr.heap.size,3,none⟩) hzW).trans c3;have m3:=(hb2.cell (p:=⟨wr.heap.size,4,none⟩) hzW).trans c4;have m5:=(hb2.cell (p:=⟨w.heap.size,0,none⟩) hz3).trans c5;have hz2:=hb2.size;clear hb2)|(go_at_call 148;refine (hat _ (.inr ⟨b,off,rfl,by omega,fun i hi j hj=> (HB3.out.cell (p:=⟨b,off+i * Q0t.k+j,none⟩) hbl).trans (HC.out i hi j hj)⟩)).mono ?_;rintro e w3 ⟨rfl,hb3⟩;have HB5:=Q00 (HB3.out.trans (hb3.mono HB3.out.size));clear hb3))
         go_ret
         exact ⟨Q02 HN.out,HB5.out⟩
        |true=>
         have hE3:=hE' rfl
         have hE4:(E1==(k:Int))=false:=beq_eq_false_iff_ne.2 hE3
         clear hE'
         go_wp2_with (first|(go_at_call 44;refine hfl.mono ?_;rintro e w2 ⟨rfl,hb2⟩;have HB3:=Q00 (HBW.out.trans (hb2.mono HBW.out.size));have HB4:=Q00 (HW.out.trans (hb2.mono HW.out.size));have m0:=(hb2.cell (p:=⟨wr.heap.size,0,none⟩) hzW).trans c0;have m1:=(hb2.cell (p:=⟨wr.heap.size,1,none⟩) hzW).trans c1;have m4:=(hb2.cell (p:=⟨wr.heap.size,2,none⟩) hzW).trans c2;have m2:=(hb2.cell (p:=⟨wr.heap.size,3,none⟩) hzW).trans c3;have m3:=(hb2.cell (p:=⟨wr.heap.size,4,none⟩) hzW).trans c4;have m5:=(hb2.cell (p:=⟨w.heap.size,0,none⟩) hz3).trans c5;have hz2:=hb2.size;clear hb2)|(go_at_call 148;refine (hat _ (.inr ⟨b,off,rfl,by omega,fun i hi j hj=> (HB3.out.cell (p:=⟨b,off+i * Q0t.k+j,none⟩) hbl).trans (HC.out i hi j hj)⟩)).mono ?_;rintro e w3 ⟨rfl,hb3⟩;have HB5:=Q00 (HB3.out.trans (hb3.mono HB3.out.size));clear hb3))
         go_ret
         exact ⟨Q02 HN.out,HB5.out⟩
      ·have HN:=Q00 (Q26 hlt (Q3q (by rw [HX.out];simp [Q1S,hfo];intro h1 h2 h3;exact Int.not_le.1 fun h4=> hv ⟨h1,h2,h3,h4⟩)))
       have HV:=Q00 hv
       clear hT hfo hv
       go_wp2_with (go_at_call 44;refine hfl.mono ?_;rintro e w2 ⟨rfl,hb2⟩;have HB3:=Q00 (HBW.out.trans (hb2.mono HBW.out.size));have m0:=(hb2.cell (p:=⟨wr.heap.size,0,none⟩) hzW).trans c0;have m1:=(hb2.cell (p:=⟨wr.heap.size,1,none⟩) hzW).trans c1;have m4:=(hb2.cell (p:=⟨wr.heap.size,2,none⟩) hzW).trans c2;have m2:=(hb2.cell (p:=⟨wr.heap.size,3,none⟩) hzW).trans c3;have m3:=(hb2.cell (p:=⟨wr.heap.size,4,none⟩) hzW).trans c4;clear hb2)
       all_goals first|(go_ret;exact ⟨Q02 HN.out,HB3.out⟩)|(exfalso;apply HV.out;omega)|skip
   ·have e:k=l.length:=by omega
    subst e
    have HY:=Q00 (Q9N hn h16 hT.out)
    go_wp2
    go_ret
    exact ⟨Q02 HY.out,HB2.out⟩
 ·have HN:=Q00 (Q51 hlen)
  by_cases h1:(l.length:Int) < 1
  ·go_enter Tryz.func89,Tryz.ntmps89
   go_wp2
   go_ret
   exact ⟨Q02 HN.out,by (repeat (first|with_reducible (first|exact hB|exact Below.refl _ _|refine Below.drew ?_|refine below_drewN ?_ _|refine Below.alloc ?_ ?_ _|refine Below.setCell ?_ ?_ _)|(focus (simp;first|done|omega))|omega))⟩
  ·have h2:(16:Int) < l.length:=by omega
   go_enter Tryz.func89,Tryz.ntmps89
   go_wp2
   go_ret
   exact ⟨Q02 HN.out,by (repeat (first|with_reducible (first|exact hB|exact Below.refl _ _|refine Below.drew ?_|refine below_drewN ?_ _|refine Below.alloc ?_ ?_ _|refine Below.setCell ?_ ?_ _)|(focus (simp;first|done|omega))|omega))⟩
def Q2R (l:List Sl) (k:Nat):Nat:=((l.take k).filter (fun s=> s.u)).length
theorem Q7j (l:List Sl) (k:Nat):Q2R l k≤k:=Kdq (List.length_filter_le _ _) (by simp;omega)
theorem Q8N {l:List Sl} {k:Nat} (h:k < l.length):Q2R l (k+1)=Q2R l k+(if (l.getD k sl0).u=true then 1 else 0):=by
 unfold Q2R
 rw [Q0L Q0t l k h,List.filter_append,List.length_append]
 congr 1
 show (List.filter (fun s=> s.u) [l.getD k sl0]).length=_
 cases hu:(l.getD k sl0).u with
 |false=> rw [List.filter_cons_of_neg (by rw [hu];decide)];rfl
 |true=> rw [List.filter_cons_of_pos hu];rfl
def Q4V (l:List Sl):Nat:=Q2R l l.length
theorem Qac (b off c:Nat) (l:List Sl) (w:World) (hbl:b < w.heap.size) (hc:∀i,i < l.length→∀j,j < Q0t.k→w.cell? ⟨b,off+i * Q0t.k+j,none⟩=(Q0t.cs (l.getD i Q0t.d))[j]?) (hl:l.length≤1048576):
  Calls Tryz.prog 81 #[tab (.slice (some ⟨b,off,none⟩) l.length c)] w fun e w'=> e=.returned (.int .i64 (Q4V l))∧Below w.heap.size w w':=by
 have HC:=Q00 hc
 clear hc
 obtain ⟨W0,hW0⟩:∃W,(w.alloc (.cells #[.slice (some ⟨b,off,none⟩) l.length c] 49))=W:=⟨_,rfl⟩
 have hb_W0:Below w.heap.size w W0:=by rw [←hW0];exact ((Below.refl _ _).alloc (Kaq _) _)
 have HB:=Q00 hb_W0
 clear hb_W0
 have zct:w.heap.size < W0.heap.size:=by rw [←hW0];simp
 have ct0:W0.cell? ⟨w.heap.size,0,none⟩=some (.slice (some ⟨b,off,none⟩) l.length c):=by rw [←hW0];simp [go_sem]
 go_enter Tryz.func81,Tryz.ntmps81
 go_wp2
 go_loop [3,4] (fun n i=> ∃k:Nat,k≤l.length∧i=.int .i64 k∧n=.int .i64 (Q2R l k))
  (fun _ i=> l.length - (intOf i).toNat)
 case atStart=> exact ⟨0,Kcq _,rfl,rfl⟩
 case round=>
  obtain ⟨k,hk,rfl,rfl⟩:=hrel
  have hcl:=Q7j l k
  by_cases hlt:k < l.length
  ·have hcx:=RdL.slot (C:=w.heap.size) HC.out k hlt
   have HS:=Q00 (Q8N hlt)
   obtain ⟨s,hxy⟩:∃s,l.getD k sl0=s:=⟨_,rfl⟩
   rw [hxy] at hcx HS
   have e0:=(HB.out.cell (p:=⟨b,off+k * 5,none⟩) hbl).trans hcx.1
   have hk':(k:Int) < (l.length:Int):=by omega
   obtain ⟨su,sa,sp,sv,st⟩:=s
   simp only at e0
   clear hcx hxy
   cases su with
   |false=>
    go_wp2
    go_round
    case rel=> exact ⟨k+1,hlt,by go_num,by rw [HS.out];rfl⟩
    case measure=> simp [intOf];omega
   |true=>
    go_wp2
    go_round
    case rel=> exact ⟨k+1,hlt,by go_num,by rw [HS.out];go_num⟩
    case measure=> simp [intOf];omega
  ·have e:k=l.length:=by omega
   subst e
   go_wp2
   go_ret
   exact ⟨rfl,HB.out⟩
end Go.Proofs.YtgplppfbinfelaaGreat
