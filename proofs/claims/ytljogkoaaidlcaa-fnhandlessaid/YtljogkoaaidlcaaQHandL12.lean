/- Several texts in one: SSoon, SPlain, SAg, SAg2, SGet, Cut5, SPut, SAg3, SPut2, DropMath, WayMath, WayMath2, DueMath, PutMath, DropElse, SAg5. -/
import Derived.Test.YtljogkoaaidlcaaQHandL10
import Derived.Test.YtljogkoaaidlcaaQHandL11
namespace Go.Proofs.Ytljogkoaaidlcaa
open Go.ChangeShapes Go.WideShapes Go.ChangeAt Go.RowKit Go.Joins
set_option linter.unusedVariables false
set_option linter.unusedSimpArgs false
set_option maxRecDepth 100000
set_option maxHeartbeats 40000000
theorem Q10 (w:World) (k j:Nat) (cs:Array Value) (t:TypeId) (v:Value) (h:w.heap[k]? =some (.cells cs t (0,0))):(w.setCell ⟨k,j,none⟩ v).heap[k]? =some (.cells (cs.setIfInBounds j v) t (0,0)):=by
 simp [World.setCell,Array.getElem?_modify,h]
theorem Q0f {W:World} {B:Nat} {c:Array Value} {t:TypeId} (h:W.heap[B]? =some (.cells c t (0,0))) (j:Nat):W.frozen? ⟨B,j,none⟩=false:=by simp [World.frozen?,h]
abbrev Q6x (s:Sl):Array Value:=#[.bool s.u,.int .i64 s.a,.int .i64 s.p,.int .i64 s.v,.int .i64 s.t]
def Q8H (w:World) (B:Nat) (s:Sl):World:=((((w.setCell ⟨B,0,none⟩ (.bool s.u)).setCell ⟨B,1,none⟩ (.int .i64 s.a)).setCell ⟨B,2,none⟩ (.int .i64 s.p)).setCell ⟨B,3,none⟩ (.int .i64 s.v)).setCell ⟨B,4,none⟩ (.int .i64 s.t)
theorem Q1q {w W:World} {n B:Nat} (h:Below n w W) (hB:n≤B) (s:Sl):Below n w (Q8H W B s):=
 ((((h.setCell (p:=⟨B,0,none⟩) hB _).setCell (p:=⟨B,1,none⟩) hB _).setCell (p:=⟨B,2,none⟩) hB _).setCell (p:=⟨B,3,none⟩) hB _).setCell (p:=⟨B,4,none⟩) hB _
theorem Q2v (b off c:Nat) (l:List Sl) (w:World) (hbl:b < w.heap.size) (hc:∀i,i < l.length→∀j,j < Q0e.k→w.cell? ⟨b,off+i * Q0e.k+j,none⟩=(Q0e.cs (l.getD i Q0e.d))[j]?) (hl:l.length≤1048576):
  Calls Try.prog 59 #[tab (.slice (some ⟨b,off,none⟩) l.length c)] w fun e w'=> ∃g,e=.returned (tab (.slice (some ⟨g,0,none⟩) l.length l.length))∧Q8v w' w.heap.size (.slice (some ⟨g,0,none⟩) l.length l.length) l∧Below w.heap.size w w':=by
 obtain ⟨i0,hi,hz0,hz1,hz2⟩:=info_parts Q3f
 have HC:=Q00 hc
 clear hc
 obtain ⟨W0,hW0⟩:∃W,((w.alloc (.cells #[.slice (some ⟨b,off,none⟩) l.length c] 63)).alloc (.cells #[.slice none 0 0] 25))=W:=⟨_,rfl⟩
 have hb_W0:Below w.heap.size w W0:=by rw [←hW0];exact (((Below.refl _ _).alloc (Kaq _) _).alloc (by simp <;> omega) _)
 have HB:=Q00 hb_W0
 clear hb_W0
 have zct:w.heap.size < W0.heap.size:=by rw [←hW0];simp <;> omega
 have ct0:W0.cell? ⟨w.heap.size,0,none⟩=some (.slice (some ⟨b,off,none⟩) l.length c):=by rw [←hW0];simp [go_sem]
 have zcr:w.heap.size+1 < W0.heap.size:=by rw [←hW0];simp
 have cr0:W0.cell? ⟨w.heap.size+1,0,none⟩=some (.slice none 0 0):=by rw [←hW0];simp [go_sem]
 have fcr0:W0.frozen? ⟨w.heap.size+1,0,none⟩=false:=by rw [←hW0];simp [go_sem]
 have zcr0:=zcr
 have hw00:w.heap.size≤W0.heap.size:=HB.out.size
 go_enter Try.func59,Try.ntmps59
 go_wp2_with (at_make;refine wpList_make_full _ rfl _ _ 23 rfl W0.heap.size 84 i0 (slot sl0) 5 Try.underlying23 hi hz0 hz1 _ _ _ _ l.length rfl rfl rfl rfl ?b2 ?b3 ?b4 ?_)
 case b2=> rw [hz2];omega
 case b3=> unfold maxLen;omega
 case b4=> simp
 intro w1 hown hgrow
 have hb:Below W0.heap.size W0 w1:=(Below.refl _ _).grown hgrow (Kaq _) (fun k h=> by cases h)
 have HBg:=Q00 hb
 have HO:Hid (w1.ownsRow W0.heap.size 84 5 (.slice (some ⟨W0.heap.size,0,none⟩) l.length l.length) l.length ((Q1L Q0e l 0).flatMap Q0e.cs)):=by unfold Hid;rw [Q46,←Q2Q Q0e (slot sl0) rfl];exact hown
 have zg:W0.heap.size < w1.heap.size:=(hown.lt _ rfl).2
 clear hown hgrow
 replace ct0:w1.cell? ⟨w.heap.size,0,none⟩=some (.slice (some ⟨b,off,none⟩) l.length c):=(hb.cell (p:=⟨w.heap.size,0,none⟩) zct).trans ct0
 replace zct:w.heap.size < w1.heap.size:=Kbq zct hb.size
 replace cr0:w1.cell? ⟨w.heap.size+1,0,none⟩=some (.slice none 0 0):=(hb.cell (p:=⟨w.heap.size+1,0,none⟩) zcr).trans cr0
 replace fcr0:w1.frozen? ⟨w.heap.size+1,0,none⟩=false:=(hb.frozen (p:=⟨w.heap.size+1,0,none⟩) zcr).trans fcr0
 replace zcr:w.heap.size+1 < w1.heap.size:=Kbq zcr hb.size
 replace HB:=Q00 (HB.out.trans (hb.mono HB.out.size))
 clear hb
 obtain ⟨W2,hW2⟩:∃W,(w1.alloc (.cells #[.slice (some ⟨W0.heap.size,0,none⟩) l.length l.length] 25))=W:=⟨_,rfl⟩
 have hb_W2:Below w1.heap.size w1 W2:=by rw [←hW2];exact ((Below.refl _ _).alloc (Kaq _) _)
 replace ct0:W2.cell? ⟨w.heap.size,0,none⟩=some (.slice (some ⟨b,off,none⟩) l.length c):=(hb_W2.cell (p:=⟨w.heap.size,0,none⟩) zct).trans ct0
 replace zct:w.heap.size < W2.heap.size:=Kbq zct hb_W2.size
 replace cr0:W2.cell? ⟨w.heap.size+1,0,none⟩=some (.slice none 0 0):=(hb_W2.cell (p:=⟨w.heap.size+1,0,none⟩) zcr).trans cr0
 replace fcr0:W2.frozen? ⟨w.heap.size+1,0,none⟩=false:=(hb_W2.frozen (p:=⟨w.heap.size+1,0,none⟩) zcr).trans fcr0
 replace zcr:w.heap.size+1 < W2.heap.size:=Kbq zcr hb_W2.size
 replace HO:=Q00 (Q0a HO.out hb_W2)
 replace HB:=Q00 (HB.out.trans (hb_W2.mono HB.out.size))
 clear hb_W2
 have zcs:w1.heap.size < W2.heap.size:=by rw [←hW2];simp
 have cs0:W2.cell? ⟨w1.heap.size,0,none⟩=some (.slice (some ⟨W0.heap.size,0,none⟩) l.length l.length):=by rw [←hW2];simp [go_sem]
 have b3:Hid (W2.heap[w1.heap.size]? =some (.cells #[.slice (some ⟨W0.heap.size,0,none⟩) l.length l.length] 25 (0,0))):=by rw [←hW2];exact World.alloc_heap_new w1 _
 have bR:Hid (W2.heap[w.heap.size+1]? =some (.cells #[.slice none 0 0] 25 (0,0))):=by
  have h:=World.alloc_heap_new (w.alloc (.cells #[.slice (some ⟨b,off,none⟩) l.length c] 63)) (.cells #[.slice none 0 0] 25)
  rw [hW0,World.size_alloc] at h
  exact ((by rw [←hW2];exact (Below.heap_alloc _ _ _ (by omega)):W2.heap[w.heap.size+1]? =w1.heap[w.heap.size+1]?)).trans ((HBg.out.block _ zcr0).trans h)
 have zs0:=zcs
 go_wp2
 go_loopw [14] (fun i wr=> ∃k:Nat,k≤l.length∧i=.int .i64 k∧Hid (wr.ownsRow W0.heap.size 84 5 (.slice (some ⟨W0.heap.size,0,none⟩) l.length l.length) l.length ((Q1L Q0e l k).flatMap Q0e.cs))∧Hid (wr.heap[w.heap.size+1]? =some (.cells #[.slice none 0 0] 25 (0,0)))∧Hid (wr.heap[w1.heap.size]? =some (.cells #[.slice (some ⟨W0.heap.size,0,none⟩) l.length l.length] 25 (0,0)))∧Hid (Below w.heap.size w wr)∧w1.heap.size < wr.heap.size)
  (fun i _=> l.length - (intOf i).toNat)
 case atStart=> exact ⟨0,Kcq _,rfl,HO,bR,b3,HB,zcs⟩
 case round=>
  clear HO bR b3 HB HBg ct0 cr0 fcr0 cs0 hW2 hW0 zct zcr zcs
  obtain ⟨k,hk,rfl,HO,HR,HT,HBr,hsz⟩:=hrel
  by_cases hlt:k < l.length
  ·obtain ⟨s,hxy⟩:∃s,l.getD k sl0=s:=⟨_,rfl⟩
   have hcx:=RdL.slot (C:=w.heap.size) HC.out k hlt
   rw [hxy] at hcx
   have e0:=(HBr.out.cell (p:=⟨b,off+k * 5,none⟩) hbl).trans hcx.1
   have e1:=(HBr.out.cell (p:=⟨b,off+k * 5+1,none⟩) hbl).trans hcx.2.1
   have e2:=(HBr.out.cell (p:=⟨b,off+k * 5+2,none⟩) hbl).trans hcx.2.2.1
   have e3:=(HBr.out.cell (p:=⟨b,off+k * 5+3,none⟩) hbl).trans hcx.2.2.2.1
   have e4:=(HBr.out.cell (p:=⟨b,off+k * 5+4,none⟩) hbl).trans hcx.2.2.2.2
   have hk':(k:Int) < (l.length:Int):=by omega
   have HX:=Q00 hxy
   clear hcx hxy
   obtain ⟨W5,hW5⟩:∃W,wr.alloc (.cells (Q6x s) 102)=W:=⟨_,rfl⟩
   have hb5:Below wr.heap.size wr W5:=by rw [←hW5];exact (Below.refl _ _).alloc (Kaq _) _
   have hz5:wr.heap.size < W5.heap.size:=by rw [←hW5];simp
   have s0:W5.cell? ⟨wr.heap.size,0,none⟩=some (.bool s.u):=by rw [←hW5];simp [go_sem]
   have s1:W5.cell? ⟨wr.heap.size,1,none⟩=some (.int .i64 s.a):=by rw [←hW5];simp [go_sem]
   have s2:W5.cell? ⟨wr.heap.size,2,none⟩=some (.int .i64 s.p):=by rw [←hW5];simp [go_sem]
   have s3:W5.cell? ⟨wr.heap.size,3,none⟩=some (.int .i64 s.v):=by rw [←hW5];simp [go_sem]
   have s4:W5.cell? ⟨wr.heap.size,4,none⟩=some (.int .i64 s.t):=by rw [←hW5];simp [go_sem]
   have t3:W5.cell? ⟨w1.heap.size,0,none⟩=some (.slice (some ⟨W0.heap.size,0,none⟩) l.length l.length):=(hb5.cell (p:=⟨w1.heap.size,0,none⟩) hsz).trans (Q02 HT.out 0 _ rfl)
   have zt3:w1.heap.size < W5.heap.size:=Kbq hsz hb5.size
   have Hb5:=Q00 hb5
   have hown5:=Q0a HO.out hb5
   have hso:=Q63 s W5.drew
   have hln:((Q1L Q0e l k).flatMap Q0e.cs).length=l.length * 5:=by rw [Q0u,Q32 Q0e l k hk];rfl
   have Hown5:Hid (W5.ownsRow W0.heap.size 84 5 (.slice (some ⟨W0.heap.size,0,none⟩) l.length l.length) l.length ((Q1L Q0e l k).flatMap Q0e.cs)):=hown5
   clear hown5 hb5
   go_wp2
   first|(go_region_with (first|(go_at_call 87;refine hso.mono ?_;rintro e w6 ⟨rfl,hb⟩;replace hb:Below W5.heap.size W5 w6:=(Below.drew (Below.refl _ _)).trans hb;have t36:=(hb.cell (p:=⟨w1.heap.size,0,none⟩) zt3).trans t3;have s60:=(hb.cell (p:=⟨wr.heap.size,0,none⟩) hz5).trans s0;have s61:=(hb.cell (p:=⟨wr.heap.size,1,none⟩) hz5).trans s1;have s62:=(hb.cell (p:=⟨wr.heap.size,2,none⟩) hz5).trans s2;have s63:=(hb.cell (p:=⟨wr.heap.size,3,none⟩) hz5).trans s3;have s64:=(hb.cell (p:=⟨wr.heap.size,4,none⟩) hz5).trans s4;have ho6:=Q0a Hown5.out hb;obtain ⟨u0,hu0⟩:∃u,w6.cell? ⟨W0.heap.size,k * 5,none⟩=some u:=⟨_,(ho6.cellAt (k * 5) (by omega)).trans (List.getElem?_eq_getElem (by omega))⟩;have hf0:=ho6.frozenAt (k * 5);obtain ⟨u1,hu1⟩:∃u,w6.cell? ⟨W0.heap.size,k * 5+1,none⟩=some u:=⟨_,(ho6.cellAt (k * 5+1) (by omega)).trans (List.getElem?_eq_getElem (by omega))⟩;have hf1:=ho6.frozenAt (k * 5+1);obtain ⟨u2,hu2⟩:∃u,w6.cell? ⟨W0.heap.size,k * 5+2,none⟩=some u:=⟨_,(ho6.cellAt (k * 5+2) (by omega)).trans (List.getElem?_eq_getElem (by omega))⟩;have hf2:=ho6.frozenAt (k * 5+2);obtain ⟨u3,hu3⟩:∃u,w6.cell? ⟨W0.heap.size,k * 5+3,none⟩=some u:=⟨_,(ho6.cellAt (k * 5+3) (by omega)).trans (List.getElem?_eq_getElem (by omega))⟩;have hf3:=ho6.frozenAt (k * 5+3);obtain ⟨u4,hu4⟩:∃u,w6.cell? ⟨W0.heap.size,k * 5+4,none⟩=some u:=⟨_,(ho6.cellAt (k * 5+4) (by omega)).trans (List.getElem?_eq_getElem (by omega))⟩;have hf4:=ho6.frozenAt (k * 5+4);have Hb6:=Q00 hb;have HO6:=Q00 ho6;clear hb ho6)))|fail
   all_goals have HR6:=Q00 (Q1I (k:=k) s (Kaq _) HO6.out (Below.refl W0.heap.size w6))
   all_goals have HX2:=Q00 (show (Q1L Q0e l k).set k s=Q1L Q0e l (k+1) by rw [←HX.out];exact Q4U Q0e l k hlt)
   all_goals have Hb7:=Q00 (Hb5.out.trans (Hb6.out.mono Hb5.out.size))
   all_goals go_wp2
   all_goals go_roundw
   all_goals first|(simp [intOf];omega;done)|exact ⟨k+1,hlt,by go_num,(by have h:=HR6.out.1;rw [HX2.out] at h;exact h),(HR6.out.2.block _ zcr0).trans ((Hb7.out.block _ (by omega)).trans HR.out),((((((Below.heap_setCell _ _ _ _ (by simp;omega)).trans (Below.heap_setCell _ _ _ _ (by simp;omega))).trans (Below.heap_setCell _ _ _ _ (by simp;omega))).trans (Below.heap_setCell _ _ _ _ (by simp;omega))).trans (Below.heap_setCell _ _ _ _ (by simp;omega))).trans ((Hb7.out.block _ hsz).trans HT.out)),HBr.out.trans ((Hb7.out.mono HBr.out.size).trans (HR6.out.2.mono hw00)),Kbq hsz (Kdq Hb7.out.size HR6.out.2.size)⟩
  ·have e:k=l.length:=by omega
   subst e
   have hrow:=HO.out
   rw [Q4R] at hrow
   have HRow:=Q00 hrow
   clear hrow HO
   have r1:=Q02 HR.out 0 _ rfl
   have f1:=Q0f HR.out 0
   have t3:=Q02 HT.out 0 _ rfl
   go_wp2
   refine bodyPost_ret (v:=tab (.slice (some ⟨W0.heap.size,0,none⟩) l.length l.length)) (by simp [results,Try.results59,go_sem,r1]) rfl ⟨_,rfl, ?_, ?_⟩
   ·exact Q0x (ownsRow_setCell_below HRow.out (show w.heap.size+1 < W0.heap.size from zcr0) _) hw00
   ·exact HBr.out.setCell (p:=⟨w.heap.size+1,0,none⟩) (by simp) _
def Q7o (n:Int):List Sl:=if 1≤n∧n≤16 then List.replicate n.toNat sl0 else []
def Q8k (n:Int):Bool:=decide (1≤n) && decide (n≤16)
theorem Q3c (n:Int) (w:World):
  Calls Try.prog 95 #[.int .i64 n] w fun e w'=> ∃v,e=.returned (.tuple #[v,.bool (Q8k n)])∧InTb w.heap.size w'.heap.size w' v (Q7o n)∧Below w.heap.size w w':=by
 obtain ⟨i0,hi,hz0,hz1,hz2⟩:=info_parts Q3f
 obtain ⟨W0,hW0⟩:∃W,(w.alloc (.cells #[.slice none 0 0] 25))=W:=⟨_,rfl⟩
 have hb_W0:Below w.heap.size w W0:=by rw [←hW0];exact ((Below.refl _ _).alloc (Kaq _) _)
 have HB:=Q00 hb_W0
 clear hb_W0
 have zcr:w.heap.size < W0.heap.size:=by rw [←hW0];simp
 have cr0:W0.cell? ⟨w.heap.size,0,none⟩=some (.slice none 0 0):=by rw [←hW0];simp [go_sem]
 have fcr0:W0.frozen? ⟨w.heap.size,0,none⟩=false:=by rw [←hW0];simp [go_sem]
 by_cases hn:1≤n∧n≤16
 ·obtain ⟨m,rfl⟩:∃m:Nat,n=m:=⟨n.toNat,by omega⟩
  have HM:=Q00 (show Q7o (m:Int)=List.replicate m sl0 by unfold Q7o;rw [if_pos hn];simp)
  have HN:=Q00 (show Q8k (m:Int)=true by simp [Q8k];omega)
  have i1:¬((m:Int) < 1):=by omega
  have i2:¬(16 < (m:Int)):=by omega
  have zcr0:=zcr
  have hw00:=HB.out.size
  go_enter Try.func95,Try.ntmps95
  go_wp2_with (at_make;refine wpList_make_full _ rfl _ _ 23 rfl W0.heap.size 84 i0 (slot sl0) 5 Try.underlying23 hi hz0 hz1 _ _ _ _ m rfl rfl rfl rfl ?b2 ?b3 ?b4 ?_)
  case b2=> omega
  case b3=> unfold maxLen;omega
  intro w1 hown hgrow
  have hb:Below W0.heap.size W0 w1:=(Below.refl _ _).grown hgrow (Kaq _) (fun k h=> by cases h)
  have HO:Hid (Q8v w1 W0.heap.size (.slice (some ⟨W0.heap.size,0,none⟩) m m) (List.replicate m sl0)):=by
   unfold Hid Q8v ownL
   rw [List.length_replicate]
   show w1.ownsRow _ _ _ _ m ((List.replicate m Q0e.d).flatMap Q0e.cs)
   rw [←Q2Q Q0e (slot sl0) rfl];exact hown
  have c0:=cr0
  clear hown hgrow c0
  replace cr0:w1.cell? ⟨w.heap.size,0,none⟩=some (.slice none 0 0):=(hb.cell (p:=⟨w.heap.size,0,none⟩) zcr).trans cr0
  replace fcr0:w1.frozen? ⟨w.heap.size,0,none⟩=false:=(hb.frozen (p:=⟨w.heap.size,0,none⟩) zcr).trans fcr0
  replace zcr:w.heap.size < w1.heap.size:=Kbq zcr hb.size
  replace HB:=Q00 (HB.out.trans (hb.mono HB.out.size))
  clear hb
  go_wp2
  refine bodyPost_ret (v:=.tuple #[tab (.slice (some ⟨W0.heap.size,0,none⟩) m m),.bool true]) (by simp [results,Try.results95,go_sem,cr0]) rfl ⟨_,by rw [HN.out],⟨_,rfl, ?_⟩, ?_⟩
  ·rw [HM.out];exact InRow.of (Q0x (ownsRow_setCell_below HO.out (show w.heap.size < W0.heap.size from zcr0) _) hw00)
  ·exact HB.out.setCell (p:=⟨w.heap.size,0,none⟩) (Kaq _) _
 ·skip
  have HM:=Q00 (show Q7o n=[] by unfold Q7o;rw [if_neg hn])
  have HN:=Q00 (show Q8k n=false by simp [Q8k];omega)
  by_cases h1:n < 1
  ·skip
   clear hn
   go_enter Try.func95,Try.ntmps95
   go_wp2
   refine bodyPost_ret (v:=.tuple #[tab (.slice none 0 0),.bool false]) (by simp [results,Try.results95,go_sem,cr0]) rfl ⟨_,by rw [HN.out],⟨_,rfl, ?_⟩, ?_⟩
   ·rw [HM.out];exact InRow.of (World.ownsRow_nil _ _ _ _)
   ·exact HB.out.setCell (p:=⟨w.heap.size,0,none⟩) (Kaq _) _
  ·have h2:16 < n:=by omega
   clear hn
   go_enter Try.func95,Try.ntmps95
   go_wp2
   refine bodyPost_ret (v:=.tuple #[tab (.slice none 0 0),.bool false]) (by simp [results,Try.results95,go_sem,cr0]) rfl ⟨_,by rw [HN.out],⟨_,rfl, ?_⟩, ?_⟩
   ·rw [HM.out];exact InRow.of (World.ownsRow_nil _ _ _ _)
   ·exact HB.out.setCell (p:=⟨w.heap.size,0,none⟩) (Kaq _) _
def Q0o (m:Am):Bool:=decide (0≤m.id) && decide (m.id < 6) && decide (0≤m.lim) && decide (m.lim≤16) && Q0b m.c && Q0b m.t
theorem Q0A {m:Am}:Q0o m=true↔(0≤m.id∧m.id < 6∧0≤m.lim∧m.lim≤16∧Q0b m.c=true∧Q0b m.t=true∧True):=by simp [Q0o,and_assoc]
theorem Q4t {m:Am} (h1:0≤m.id) (h2:m.id < 6) (h3:0≤m.lim) (h4:m.lim≤16):Q0o m=(Q0b m.c && Q0b m.t):=by simp [Q0o,h1,h2,h3,h4]
theorem Q4D (m:Am):Q0o m=((decide (0≤m.id) && decide (m.id < 6)) && (decide (0≤m.lim) && decide (m.lim≤16)) && (Q0b m.c && Q0b m.t)):=by simp [Q0o,Bool.and_assoc]
theorem Q3W (v:Value) (m:Am) (w:World) (hR:RdA w.heap.size w v m) (hf:m.c.length+m.t.length≤1048576):
  Calls Try.prog 17 #[v] w fun e w'=> e=.returned (.bool (Q0o m))∧Below w.heap.size w w':=by
 obtain ⟨vc,vt,rfl,⟨oc,cc,rfl,rc⟩,⟨ot,ct,rfl,rt⟩⟩:=hR
 obtain ⟨W0,hW0⟩:∃W,(w.alloc (.cells #[.int .i64 m.id,.int .i64 m.lim,.bool m.dr,.slice oc m.c.length cc,.slice ot m.t.length ct] 27))=W:=⟨_,rfl⟩
 have hb_W0:Below w.heap.size w W0:=by rw [←hW0];exact ((Below.refl _ _).alloc (Kaq _) _)
 have HB:=Q00 hb_W0
 clear hb_W0
 have zz:w.heap.size < W0.heap.size:=by rw [←hW0];simp
 have z0:W0.cell? ⟨w.heap.size,0,none⟩=some (.int .i64 m.id):=by rw [←hW0];simp [go_sem]
 have z1:W0.cell? ⟨w.heap.size,1,none⟩=some (.int .i64 m.lim):=by rw [←hW0];simp [go_sem]
 have z2:W0.cell? ⟨w.heap.size,2,none⟩=some (.bool m.dr):=by rw [←hW0];simp [go_sem]
 have z3:W0.cell? ⟨w.heap.size,3,none⟩=some (.slice oc m.c.length cc):=by rw [←hW0];simp [go_sem]
 have z4:W0.cell? ⟨w.heap.size,4,none⟩=some (.slice ot m.t.length ct):=by rw [←hW0];simp [go_sem]
 have hcc:=Q25 oc cc m.c W0 ((rc.kept HB.out (Kaq _)).le HB.out.size) (by omega)
 have hct:=fun W (h:Below w.heap.size w W)=> Q25 ot ct m.t W ((rt.kept h (Kaq _)).le h.size) (by omega)
 have HCT:=Q00 hct
 clear hct rc rt
 by_cases h1:0≤m.id
 ·by_cases h2:m.id < 6
  ·by_cases h3:0≤m.lim
   ·by_cases h4:m.lim≤16
    ·have HE:=Q00 (Q4t h1 h2 h3 h4)
     generalize Q0b m.c=t1 at *
     cases t1 with
     |false=>
      go_enter Try.func17,Try.ntmps17
      go_wp2_with fail
      refine (hcc).mono ?_
      rintro e v1 ⟨rfl,hb⟩
      replace z0:v1.cell? ⟨w.heap.size,0,none⟩=some (.int .i64 m.id):=(hb.cell (p:=⟨w.heap.size,0,none⟩) zz).trans z0
      replace z1:v1.cell? ⟨w.heap.size,1,none⟩=some (.int .i64 m.lim):=(hb.cell (p:=⟨w.heap.size,1,none⟩) zz).trans z1
      replace z2:v1.cell? ⟨w.heap.size,2,none⟩=some (.bool m.dr):=(hb.cell (p:=⟨w.heap.size,2,none⟩) zz).trans z2
      replace z3:v1.cell? ⟨w.heap.size,3,none⟩=some (.slice oc m.c.length cc):=(hb.cell (p:=⟨w.heap.size,3,none⟩) zz).trans z3
      replace z4:v1.cell? ⟨w.heap.size,4,none⟩=some (.slice ot m.t.length ct):=(hb.cell (p:=⟨w.heap.size,4,none⟩) zz).trans z4
      replace zz:w.heap.size < v1.heap.size:=Kbq zz hb.size
      replace HB:=Q00 (HB.out.trans (hb.mono HB.out.size))
      clear hb
      go_wp2
      go_ret
      exact ⟨by rw [HE.out];rfl,HB.out⟩
     |true=>
      go_enter Try.func17,Try.ntmps17
      go_wp2_with fail
      refine (hcc).mono ?_
      rintro e v1 ⟨rfl,hb⟩
      replace z0:v1.cell? ⟨w.heap.size,0,none⟩=some (.int .i64 m.id):=(hb.cell (p:=⟨w.heap.size,0,none⟩) zz).trans z0
      replace z1:v1.cell? ⟨w.heap.size,1,none⟩=some (.int .i64 m.lim):=(hb.cell (p:=⟨w.heap.size,1,none⟩) zz).trans z1
      replace z2:v1.cell? ⟨w.heap.size,2,none⟩=some (.bool m.dr):=(hb.cell (p:=⟨w.heap.size,2,none⟩) zz).trans z2
      replace z3:v1.cell? ⟨w.heap.size,3,none⟩=some (.slice oc m.c.length cc):=(hb.cell (p:=⟨w.heap.size,3,none⟩) zz).trans z3
      replace z4:v1.cell? ⟨w.heap.size,4,none⟩=some (.slice ot m.t.length ct):=(hb.cell (p:=⟨w.heap.size,4,none⟩) zz).trans z4
      replace zz:w.heap.size < v1.heap.size:=Kbq zz hb.size
      replace HB:=Q00 (HB.out.trans (hb.mono HB.out.size))
      clear hb
      go_wp2_with fail
      refine (HCT.out v1 HB.out).mono ?_
      rintro e v2 ⟨rfl,hb⟩
      replace z0:v2.cell? ⟨w.heap.size,0,none⟩=some (.int .i64 m.id):=(hb.cell (p:=⟨w.heap.size,0,none⟩) zz).trans z0
      replace z1:v2.cell? ⟨w.heap.size,1,none⟩=some (.int .i64 m.lim):=(hb.cell (p:=⟨w.heap.size,1,none⟩) zz).trans z1
      replace z2:v2.cell? ⟨w.heap.size,2,none⟩=some (.bool m.dr):=(hb.cell (p:=⟨w.heap.size,2,none⟩) zz).trans z2
      replace z3:v2.cell? ⟨w.heap.size,3,none⟩=some (.slice oc m.c.length cc):=(hb.cell (p:=⟨w.heap.size,3,none⟩) zz).trans z3
      replace z4:v2.cell? ⟨w.heap.size,4,none⟩=some (.slice ot m.t.length ct):=(hb.cell (p:=⟨w.heap.size,4,none⟩) zz).trans z4
      replace zz:w.heap.size < v2.heap.size:=Kbq zz hb.size
      replace HB:=Q00 (HB.out.trans (hb.mono HB.out.size))
      clear hb
      go_wp2
      all_goals go_ret
      all_goals exact ⟨by rw [HE.out];first|rfl|simp,HB.out⟩
    ·have HN:=Q00 (Q13 (Q0A (m:=m)) (fun q=> h4 q.2.2.2.1))
     clear hcc HCT
     go_enter Try.func17,Try.ntmps17
     go_wp2
     all_goals go_ret
     all_goals exact ⟨Q0i HN.out,HB.out⟩
   ·have HN:=Q00 (Q13 (Q0A (m:=m)) (fun q=> h3 q.2.2.1))
    clear hcc HCT
    go_enter Try.func17,Try.ntmps17
    go_wp2
    all_goals go_ret
    all_goals exact ⟨Q0i HN.out,HB.out⟩
  ·have HN:=Q00 (Q13 (Q0A (m:=m)) (fun q=> h2 q.2.1))
   clear hcc HCT
   go_enter Try.func17,Try.ntmps17
   go_wp2
   all_goals go_ret
   all_goals exact ⟨Q0i HN.out,HB.out⟩
 ·have HN:=Q00 (Q13 (Q0A (m:=m)) (fun q=> h1 q.1))
  clear hcc HCT
  go_enter Try.func17,Try.ntmps17
  go_wp2
  all_goals go_ret
  all_goals exact ⟨Q0i HN.out,HB.out⟩
theorem Q3z (n:Int) (w:World):Calls Try.prog 50 #[.int .i64 n] w fun e w'=> e=.returned (.bool (decide (0≤n) && decide (n < 6)))∧w=w':=by
 go_enter Try.func50,Try.ntmps50
 go_wp2
 all_goals go_ret
 all_goals refine ⟨Q0i ?_,rfl⟩
 all_goals first|(simp [*];done)|(simp;omega)
theorem Q3t (n:Int) (w:World):Calls Try.prog 40 #[.int .i64 n] w fun e w'=> e=.returned (.bool (decide (0≤n) && decide (n≤16)))∧w=w':=by
 go_enter Try.func40,Try.ntmps40
 go_wp2
 all_goals go_ret
 all_goals refine ⟨Q0i ?_,rfl⟩
 all_goals first|(simp [*];done)|(simp;omega)
abbrev agi (vc vt:Value) (i l:Int) (d:Bool):Value:=.agg #[vc,vt,.int .i64 i,.int .i64 l,.bool d]
def OwnG (lo hi:Nat) (w:World) (v:Value) (m:Am):Prop:=∃g h mid,v=agi (.slice (some ⟨g,0,none⟩) m.c.length m.c.length) (.slice (some ⟨h,0,none⟩) m.t.length m.t.length) m.id m.lim m.dr∧Q8w lo mid w (.slice (some ⟨g,0,none⟩) m.c.length m.c.length) m.c∧Q8w mid hi w (.slice (some ⟨h,0,none⟩) m.t.length m.t.length) m.t∧lo≤mid∧mid≤hi
theorem OwnG.step {a b lo hi:Nat} {w w':World} {v:Value} {m:Am} (h:OwnG a b w v m) (s:Stp lo hi w w') (hd:hi≤a∨b≤lo):OwnG a b w' v m:=by
 obtain ⟨g,h',mid,e,h1,h2,h3,h4⟩:=h
 exact ⟨g,h',mid,e,InRow.step h1 s (by omega),InRow.step h2 s (by omega),h3,h4⟩
theorem Q1m (v:Value) (m:Am) (w:World) (hR:RdA w.heap.size w v m) (hf:m.c.length+m.t.length≤1048576):
  Calls Try.prog 26 #[v] w fun e w'=> ∃o1 n1 c1 o2 n2 c2 i l d,e=.returned (.tuple #[agi (.slice o1 n1 c1) (.slice o2 n2 c2) i l d,.bool (Q0o m)])∧(Q0o m=true→OwnG w.heap.size w'.heap.size w' (agi (.slice o1 n1 c1) (.slice o2 n2 c2) i l d) m)∧Below w.heap.size w w':=by
 obtain ⟨vc,vt,rfl,⟨oc,cc,rfl,rc⟩,⟨ot,ct,rfl,rt⟩⟩:=hR
 obtain ⟨W0,hW0⟩:∃W,((w.alloc (.cells #[.int .i64 m.id,.int .i64 m.lim,.bool m.dr,.slice oc m.c.length cc,.slice ot m.t.length ct] 27)).alloc (.cells #[.slice none 0 0,.slice none 0 0,.int .i64 0,.int .i64 0,.bool false] 68))=W:=⟨_,rfl⟩
 have hb_W0:Below w.heap.size w W0:=by rw [←hW0];exact (((Below.refl _ _).alloc (Kaq _) _).alloc (by simp <;> omega) _)
 have HB:=Q00 hb_W0
 clear hb_W0
 have zz:w.heap.size < W0.heap.size:=by rw [←hW0];simp <;> omega
 have z0:W0.cell? ⟨w.heap.size,0,none⟩=some (.int .i64 m.id):=by rw [←hW0];simp [go_sem]
 have z1:W0.cell? ⟨w.heap.size,1,none⟩=some (.int .i64 m.lim):=by rw [←hW0];simp [go_sem]
 have z2:W0.cell? ⟨w.heap.size,2,none⟩=some (.bool m.dr):=by rw [←hW0];simp [go_sem]
 have z3:W0.cell? ⟨w.heap.size,3,none⟩=some (.slice oc m.c.length cc):=by rw [←hW0];simp [go_sem]
 have z4:W0.cell? ⟨w.heap.size,4,none⟩=some (.slice ot m.t.length ct):=by rw [←hW0];simp [go_sem]
 have zr:w.heap.size+1 < W0.heap.size:=by rw [←hW0];simp
 have r0:W0.cell? ⟨w.heap.size+1,0,none⟩=some (.slice none 0 0):=by rw [←hW0];simp [go_sem]
 have r1:W0.cell? ⟨w.heap.size+1,1,none⟩=some (.slice none 0 0):=by rw [←hW0];simp [go_sem]
 have r2:W0.cell? ⟨w.heap.size+1,2,none⟩=some (.int .i64 0):=by rw [←hW0];simp [go_sem]
 have r3:W0.cell? ⟨w.heap.size+1,3,none⟩=some (.int .i64 0):=by rw [←hW0];simp [go_sem]
 have r4:W0.cell? ⟨w.heap.size+1,4,none⟩=some (.bool false):=by rw [←hW0];simp [go_sem]
 have fr0:W0.frozen? ⟨w.heap.size+1,0,none⟩=false:=by rw [←hW0];simp [go_sem]
 have fr1:W0.frozen? ⟨w.heap.size+1,1,none⟩=false:=by rw [←hW0];simp [go_sem]
 have fr2:W0.frozen? ⟨w.heap.size+1,2,none⟩=false:=by rw [←hW0];simp [go_sem]
 have fr3:W0.frozen? ⟨w.heap.size+1,3,none⟩=false:=by rw [←hW0];simp [go_sem]
 have fr4:W0.frozen? ⟨w.heap.size+1,4,none⟩=false:=by rw [←hW0];simp [go_sem]
 have hz00:w.heap.size+1 < W0.heap.size:=zr
 have h1:=Q2K oc cc m.c W0 ((rc.kept HB.out (Kaq _)).le HB.out.size) (by omega)
 have h2:=fun W (h:Below w.heap.size w W)=> Q2K ot ct m.t W ((rt.kept h (Kaq _)).le h.size) (by omega)
 have H2:=Q00 h2
 have hbk:=fun W=> Q3z m.id W
 have hli:=fun W=> Q3t m.lim W
 have HE:=Q00 (Q4D m)
 clear h2 rc rt
 generalize (decide (0≤m.id) && decide (m.id < 6))=bk at *
 generalize (decide (0≤m.lim) && decide (m.lim≤16))=bl at *
 generalize Q0b m.c=t1 at *
 generalize Q0b m.t=t2 at *
 by_cases hall:(bk && bl && (t1 && t2))=true
 ·obtain ⟨rfl,rfl,rfl,rfl⟩:bk=true∧bl=true∧t1=true∧t2=true:=by cases bk <;> cases bl <;> cases t1 <;> cases t2 <;> simp_all
  go_enter Try.func26,Try.ntmps26
  go_wp2_with fail
  refine (h1).mono ?_
  rintro e v1 ⟨o1,n1,c1,rfl,hv1,hb⟩
  obtain ⟨g,rfl,rfl,rfl,hown⟩:=hv1 (by simp)
  have HO:=Q00 hown
  have hg0:=(hown.lt g rfl).1
  have hg1:=(hown.lt g rfl).2
  clear hown hv1
  replace z0:v1.cell? ⟨w.heap.size,0,none⟩=some (.int .i64 m.id):=(hb.cell (p:=⟨w.heap.size,0,none⟩) zz).trans z0
  replace z1:v1.cell? ⟨w.heap.size,1,none⟩=some (.int .i64 m.lim):=(hb.cell (p:=⟨w.heap.size,1,none⟩) zz).trans z1
  replace z2:v1.cell? ⟨w.heap.size,2,none⟩=some (.bool m.dr):=(hb.cell (p:=⟨w.heap.size,2,none⟩) zz).trans z2
  replace z3:v1.cell? ⟨w.heap.size,3,none⟩=some (.slice oc m.c.length cc):=(hb.cell (p:=⟨w.heap.size,3,none⟩) zz).trans z3
  replace z4:v1.cell? ⟨w.heap.size,4,none⟩=some (.slice ot m.t.length ct):=(hb.cell (p:=⟨w.heap.size,4,none⟩) zz).trans z4
  replace zz:w.heap.size < v1.heap.size:=Kbq zz hb.size
  replace r0:v1.cell? ⟨w.heap.size+1,0,none⟩=some (.slice none 0 0):=(hb.cell (p:=⟨w.heap.size+1,0,none⟩) zr).trans r0
  replace r1:v1.cell? ⟨w.heap.size+1,1,none⟩=some (.slice none 0 0):=(hb.cell (p:=⟨w.heap.size+1,1,none⟩) zr).trans r1
  replace r2:v1.cell? ⟨w.heap.size+1,2,none⟩=some (.int .i64 0):=(hb.cell (p:=⟨w.heap.size+1,2,none⟩) zr).trans r2
  replace r3:v1.cell? ⟨w.heap.size+1,3,none⟩=some (.int .i64 0):=(hb.cell (p:=⟨w.heap.size+1,3,none⟩) zr).trans r3
  replace r4:v1.cell? ⟨w.heap.size+1,4,none⟩=some (.bool false):=(hb.cell (p:=⟨w.heap.size+1,4,none⟩) zr).trans r4
  replace fr0:v1.frozen? ⟨w.heap.size+1,0,none⟩=false:=(hb.frozen (p:=⟨w.heap.size+1,0,none⟩) zr).trans fr0
  replace fr1:v1.frozen? ⟨w.heap.size+1,1,none⟩=false:=(hb.frozen (p:=⟨w.heap.size+1,1,none⟩) zr).trans fr1
  replace fr2:v1.frozen? ⟨w.heap.size+1,2,none⟩=false:=(hb.frozen (p:=⟨w.heap.size+1,2,none⟩) zr).trans fr2
  replace fr3:v1.frozen? ⟨w.heap.size+1,3,none⟩=false:=(hb.frozen (p:=⟨w.heap.size+1,3,none⟩) zr).trans fr3
  replace fr4:v1.frozen? ⟨w.heap.size+1,4,none⟩=false:=(hb.frozen (p:=⟨w.heap.size+1,4,none⟩) zr).trans fr4
  replace zr:w.heap.size+1 < v1.heap.size:=Kbq zr hb.size
  replace HB:=Q00 (HB.out.trans (hb.mono HB.out.size))
  clear hb
  obtain ⟨W2,hW2⟩:∃W,(v1.alloc (.cells #[.slice (some ⟨g,0,none⟩) m.c.length m.c.length] 63))=W:=⟨_,rfl⟩
  have hb_W2:Below v1.heap.size v1 W2:=by rw [←hW2];exact ((Below.refl _ _).alloc (Kaq _) _)
  replace z0:W2.cell? ⟨w.heap.size,0,none⟩=some (.int .i64 m.id):=(hb_W2.cell (p:=⟨w.heap.size,0,none⟩) zz).trans z0
  replace z1:W2.cell? ⟨w.heap.size,1,none⟩=some (.int .i64 m.lim):=(hb_W2.cell (p:=⟨w.heap.size,1,none⟩) zz).trans z1
  replace z2:W2.cell? ⟨w.heap.size,2,none⟩=some (.bool m.dr):=(hb_W2.cell (p:=⟨w.heap.size,2,none⟩) zz).trans z2
  replace z3:W2.cell? ⟨w.heap.size,3,none⟩=some (.slice oc m.c.length cc):=(hb_W2.cell (p:=⟨w.heap.size,3,none⟩) zz).trans z3
  replace z4:W2.cell? ⟨w.heap.size,4,none⟩=some (.slice ot m.t.length ct):=(hb_W2.cell (p:=⟨w.heap.size,4,none⟩) zz).trans z4
  replace zz:w.heap.size < W2.heap.size:=Kbq zz hb_W2.size
  replace r0:W2.cell? ⟨w.heap.size+1,0,none⟩=some (.slice none 0 0):=(hb_W2.cell (p:=⟨w.heap.size+1,0,none⟩) zr).trans r0
  replace r1:W2.cell? ⟨w.heap.size+1,1,none⟩=some (.slice none 0 0):=(hb_W2.cell (p:=⟨w.heap.size+1,1,none⟩) zr).trans r1
  replace r2:W2.cell? ⟨w.heap.size+1,2,none⟩=some (.int .i64 0):=(hb_W2.cell (p:=⟨w.heap.size+1,2,none⟩) zr).trans r2
  replace r3:W2.cell? ⟨w.heap.size+1,3,none⟩=some (.int .i64 0):=(hb_W2.cell (p:=⟨w.heap.size+1,3,none⟩) zr).trans r3
  replace r4:W2.cell? ⟨w.heap.size+1,4,none⟩=some (.bool false):=(hb_W2.cell (p:=⟨w.heap.size+1,4,none⟩) zr).trans r4
  replace fr0:W2.frozen? ⟨w.heap.size+1,0,none⟩=false:=(hb_W2.frozen (p:=⟨w.heap.size+1,0,none⟩) zr).trans fr0
  replace fr1:W2.frozen? ⟨w.heap.size+1,1,none⟩=false:=(hb_W2.frozen (p:=⟨w.heap.size+1,1,none⟩) zr).trans fr1
  replace fr2:W2.frozen? ⟨w.heap.size+1,2,none⟩=false:=(hb_W2.frozen (p:=⟨w.heap.size+1,2,none⟩) zr).trans fr2
  replace fr3:W2.frozen? ⟨w.heap.size+1,3,none⟩=false:=(hb_W2.frozen (p:=⟨w.heap.size+1,3,none⟩) zr).trans fr3
  replace fr4:W2.frozen? ⟨w.heap.size+1,4,none⟩=false:=(hb_W2.frozen (p:=⟨w.heap.size+1,4,none⟩) zr).trans fr4
  replace zr:w.heap.size+1 < W2.heap.size:=Kbq zr hb_W2.size
  replace HO:=Q00 (Q0a HO.out hb_W2)
  replace HB:=Q00 (HB.out.trans (hb_W2.mono HB.out.size))
  clear hb_W2
  have zx:v1.heap.size < W2.heap.size:=by rw [←hW2];simp
  have x0:W2.cell? ⟨v1.heap.size,0,none⟩=some (.slice (some ⟨g,0,none⟩) m.c.length m.c.length):=by rw [←hW2];simp [go_sem]
  go_wp2_with fail
  refine (H2.out W2 HB.out).mono ?_
  rintro e v2 ⟨o2,n2,c2,rfl,hv2,hb⟩
  obtain ⟨h,rfl,rfl,rfl,hown⟩:=hv2 (by simp)
  have HP:=Q00 hown
  have hh0:=(hown.lt h rfl).1
  clear hown hv2
  have hgm:g < W2.heap.size:=by have h:=hg1;rw [←hW2];simp;omega
  replace z0:v2.cell? ⟨w.heap.size,0,none⟩=some (.int .i64 m.id):=(hb.cell (p:=⟨w.heap.size,0,none⟩) zz).trans z0
  replace z1:v2.cell? ⟨w.heap.size,1,none⟩=some (.int .i64 m.lim):=(hb.cell (p:=⟨w.heap.size,1,none⟩) zz).trans z1
  replace z2:v2.cell? ⟨w.heap.size,2,none⟩=some (.bool m.dr):=(hb.cell (p:=⟨w.heap.size,2,none⟩) zz).trans z2
  replace z3:v2.cell? ⟨w.heap.size,3,none⟩=some (.slice oc m.c.length cc):=(hb.cell (p:=⟨w.heap.size,3,none⟩) zz).trans z3
  replace z4:v2.cell? ⟨w.heap.size,4,none⟩=some (.slice ot m.t.length ct):=(hb.cell (p:=⟨w.heap.size,4,none⟩) zz).trans z4
  replace zz:w.heap.size < v2.heap.size:=Kbq zz hb.size
  replace r0:v2.cell? ⟨w.heap.size+1,0,none⟩=some (.slice none 0 0):=(hb.cell (p:=⟨w.heap.size+1,0,none⟩) zr).trans r0
  replace r1:v2.cell? ⟨w.heap.size+1,1,none⟩=some (.slice none 0 0):=(hb.cell (p:=⟨w.heap.size+1,1,none⟩) zr).trans r1
  replace r2:v2.cell? ⟨w.heap.size+1,2,none⟩=some (.int .i64 0):=(hb.cell (p:=⟨w.heap.size+1,2,none⟩) zr).trans r2
  replace r3:v2.cell? ⟨w.heap.size+1,3,none⟩=some (.int .i64 0):=(hb.cell (p:=⟨w.heap.size+1,3,none⟩) zr).trans r3
  replace r4:v2.cell? ⟨w.heap.size+1,4,none⟩=some (.bool false):=(hb.cell (p:=⟨w.heap.size+1,4,none⟩) zr).trans r4
  replace fr0:v2.frozen? ⟨w.heap.size+1,0,none⟩=false:=(hb.frozen (p:=⟨w.heap.size+1,0,none⟩) zr).trans fr0
  replace fr1:v2.frozen? ⟨w.heap.size+1,1,none⟩=false:=(hb.frozen (p:=⟨w.heap.size+1,1,none⟩) zr).trans fr1
  replace fr2:v2.frozen? ⟨w.heap.size+1,2,none⟩=false:=(hb.frozen (p:=⟨w.heap.size+1,2,none⟩) zr).trans fr2
  replace fr3:v2.frozen? ⟨w.heap.size+1,3,none⟩=false:=(hb.frozen (p:=⟨w.heap.size+1,3,none⟩) zr).trans fr3
  replace fr4:v2.frozen? ⟨w.heap.size+1,4,none⟩=false:=(hb.frozen (p:=⟨w.heap.size+1,4,none⟩) zr).trans fr4
  replace zr:w.heap.size+1 < v2.heap.size:=Kbq zr hb.size
  replace x0:v2.cell? ⟨v1.heap.size,0,none⟩=some (.slice (some ⟨g,0,none⟩) m.c.length m.c.length):=(hb.cell (p:=⟨v1.heap.size,0,none⟩) zx).trans x0
  replace zx:v1.heap.size < v2.heap.size:=Kbq zx hb.size
  replace HO:=Q00 (Q0a HO.out hb)
  replace HB:=Q00 (HB.out.trans (hb.mono HB.out.size))
  clear hb
  obtain ⟨W4,hW4⟩:∃W,(v2.alloc (.cells #[.slice (some ⟨h,0,none⟩) m.t.length m.t.length] 63))=W:=⟨_,rfl⟩
  have hb_W4:Below v2.heap.size v2 W4:=by rw [←hW4];exact ((Below.refl _ _).alloc (Kaq _) _)
  replace z0:W4.cell? ⟨w.heap.size,0,none⟩=some (.int .i64 m.id):=(hb_W4.cell (p:=⟨w.heap.size,0,none⟩) zz).trans z0
  replace z1:W4.cell? ⟨w.heap.size,1,none⟩=some (.int .i64 m.lim):=(hb_W4.cell (p:=⟨w.heap.size,1,none⟩) zz).trans z1
  replace z2:W4.cell? ⟨w.heap.size,2,none⟩=some (.bool m.dr):=(hb_W4.cell (p:=⟨w.heap.size,2,none⟩) zz).trans z2
  replace z3:W4.cell? ⟨w.heap.size,3,none⟩=some (.slice oc m.c.length cc):=(hb_W4.cell (p:=⟨w.heap.size,3,none⟩) zz).trans z3
  replace z4:W4.cell? ⟨w.heap.size,4,none⟩=some (.slice ot m.t.length ct):=(hb_W4.cell (p:=⟨w.heap.size,4,none⟩) zz).trans z4
  replace zz:w.heap.size < W4.heap.size:=Kbq zz hb_W4.size
  replace r0:W4.cell? ⟨w.heap.size+1,0,none⟩=some (.slice none 0 0):=(hb_W4.cell (p:=⟨w.heap.size+1,0,none⟩) zr).trans r0
  replace r1:W4.cell? ⟨w.heap.size+1,1,none⟩=some (.slice none 0 0):=(hb_W4.cell (p:=⟨w.heap.size+1,1,none⟩) zr).trans r1
  replace r2:W4.cell? ⟨w.heap.size+1,2,none⟩=some (.int .i64 0):=(hb_W4.cell (p:=⟨w.heap.size+1,2,none⟩) zr).trans r2
  replace r3:W4.cell? ⟨w.heap.size+1,3,none⟩=some (.int .i64 0):=(hb_W4.cell (p:=⟨w.heap.size+1,3,none⟩) zr).trans r3
  replace r4:W4.cell? ⟨w.heap.size+1,4,none⟩=some (.bool false):=(hb_W4.cell (p:=⟨w.heap.size+1,4,none⟩) zr).trans r4
  replace fr0:W4.frozen? ⟨w.heap.size+1,0,none⟩=false:=(hb_W4.frozen (p:=⟨w.heap.size+1,0,none⟩) zr).trans fr0
  replace fr1:W4.frozen? ⟨w.heap.size+1,1,none⟩=false:=(hb_W4.frozen (p:=⟨w.heap.size+1,1,none⟩) zr).trans fr1
  replace fr2:W4.frozen? ⟨w.heap.size+1,2,none⟩=false:=(hb_W4.frozen (p:=⟨w.heap.size+1,2,none⟩) zr).trans fr2
  replace fr3:W4.frozen? ⟨w.heap.size+1,3,none⟩=false:=(hb_W4.frozen (p:=⟨w.heap.size+1,3,none⟩) zr).trans fr3
  replace fr4:W4.frozen? ⟨w.heap.size+1,4,none⟩=false:=(hb_W4.frozen (p:=⟨w.heap.size+1,4,none⟩) zr).trans fr4
  replace zr:w.heap.size+1 < W4.heap.size:=Kbq zr hb_W4.size
  replace x0:W4.cell? ⟨v1.heap.size,0,none⟩=some (.slice (some ⟨g,0,none⟩) m.c.length m.c.length):=(hb_W4.cell (p:=⟨v1.heap.size,0,none⟩) zx).trans x0
  replace zx:v1.heap.size < W4.heap.size:=Kbq zx hb_W4.size
  replace HO:=Q00 (Q0a HO.out hb_W4)
  replace HP:=Q00 (Q0a HP.out hb_W4)
  replace HB:=Q00 (HB.out.trans (hb_W4.mono HB.out.size))
  clear hb_W4
  have zy:v2.heap.size < W4.heap.size:=by rw [←hW4];simp
  have y0:W4.cell? ⟨v2.heap.size,0,none⟩=some (.slice (some ⟨h,0,none⟩) m.t.length m.t.length):=by rw [←hW4];simp [go_sem]
  have hW2s:W0.heap.size≤W2.heap.size:=by omega
  have hW4s:=(HP.out.lt h rfl).2
  go_wp2_with (first|(go_at_call 50;refine (hbk _).mono ?_;rintro e w9 ⟨rfl,rfl⟩)|(go_at_call 40;refine (hli _).mono ?_;rintro e w9 ⟨rfl,rfl⟩))
  refine bodyPost_ret (v:=.tuple #[agi (.slice (some ⟨g,0,none⟩) m.c.length m.c.length) (.slice (some ⟨h,0,none⟩) m.t.length m.t.length) m.id m.lim m.dr,.bool true]) (by simp [results,Try.results26,go_sem,r0,r1,r2,r3,r4]) rfl ⟨_,_,_,_,_,_,_,_,_,by rw [HE.out];rfl,fun _=> ?_, ?_⟩
  ·refine ⟨g,h,W2.heap.size,rfl,InRow.mono (InRow.step (a:=W0.heap.size) (b:=W2.heap.size) ⟨HO.out,fun b e=> by simp [Value.ownBlock] at e;omega⟩ (Q04 W4 (w.heap.size+1) _ _ _ _ _) (.inl (by omega))) (by omega) (Kaq _),InRow.mono (InRow.step (a:=W2.heap.size) (b:=W4.heap.size) ⟨HP.out,fun b e=> by simp [Value.ownBlock] at e;omega⟩ (Q04 W4 (w.heap.size+1) _ _ _ _ _) (.inl (by omega))) (Kaq _) (by rw [Q18];exact Kaq _),by omega,by rw [Q18];omega⟩
  ·exact Q07 HB.out (by omega) _ _ _ _ _
 ·have HN:Hid (Q0o m=false):=by unfold Hid;rw [HE.out];simpa using hall
  go_enter Try.func26,Try.ntmps26
  go_wp2_with fail
  refine (h1).mono ?_
  rintro e v1 ⟨o1,n1,c1,rfl,hv1,hb⟩
  clear hv1
  replace z0:v1.cell? ⟨w.heap.size,0,none⟩=some (.int .i64 m.id):=(hb.cell (p:=⟨w.heap.size,0,none⟩) zz).trans z0
  replace z1:v1.cell? ⟨w.heap.size,1,none⟩=some (.int .i64 m.lim):=(hb.cell (p:=⟨w.heap.size,1,none⟩) zz).trans z1
  replace z2:v1.cell? ⟨w.heap.size,2,none⟩=some (.bool m.dr):=(hb.cell (p:=⟨w.heap.size,2,none⟩) zz).trans z2
  replace z3:v1.cell? ⟨w.heap.size,3,none⟩=some (.slice oc m.c.length cc):=(hb.cell (p:=⟨w.heap.size,3,none⟩) zz).trans z3
  replace z4:v1.cell? ⟨w.heap.size,4,none⟩=some (.slice ot m.t.length ct):=(hb.cell (p:=⟨w.heap.size,4,none⟩) zz).trans z4
  replace zz:w.heap.size < v1.heap.size:=Kbq zz hb.size
  replace r0:v1.cell? ⟨w.heap.size+1,0,none⟩=some (.slice none 0 0):=(hb.cell (p:=⟨w.heap.size+1,0,none⟩) zr).trans r0
  replace r1:v1.cell? ⟨w.heap.size+1,1,none⟩=some (.slice none 0 0):=(hb.cell (p:=⟨w.heap.size+1,1,none⟩) zr).trans r1
  replace r2:v1.cell? ⟨w.heap.size+1,2,none⟩=some (.int .i64 0):=(hb.cell (p:=⟨w.heap.size+1,2,none⟩) zr).trans r2
  replace r3:v1.cell? ⟨w.heap.size+1,3,none⟩=some (.int .i64 0):=(hb.cell (p:=⟨w.heap.size+1,3,none⟩) zr).trans r3
  replace r4:v1.cell? ⟨w.heap.size+1,4,none⟩=some (.bool false):=(hb.cell (p:=⟨w.heap.size+1,4,none⟩) zr).trans r4
  replace fr0:v1.frozen? ⟨w.heap.size+1,0,none⟩=false:=(hb.frozen (p:=⟨w.heap.size+1,0,none⟩) zr).trans fr0
  replace fr1:v1.frozen? ⟨w.heap.size+1,1,none⟩=false:=(hb.frozen (p:=⟨w.heap.size+1,1,none⟩) zr).trans fr1
  replace fr2:v1.frozen? ⟨w.heap.size+1,2,none⟩=false:=(hb.frozen (p:=⟨w.heap.size+1,2,none⟩) zr).trans fr2
  replace fr3:v1.frozen? ⟨w.heap.size+1,3,none⟩=false:=(hb.frozen (p:=⟨w.heap.size+1,3,none⟩) zr).trans fr3
  replace fr4:v1.frozen? ⟨w.heap.size+1,4,none⟩=false:=(hb.frozen (p:=⟨w.heap.size+1,4,none⟩) zr).trans fr4
  replace zr:w.heap.size+1 < v1.heap.size:=Kbq zr hb.size
  replace HB:=Q00 (HB.out.trans (hb.mono HB.out.size))
  clear hb
  obtain ⟨W2,hW2⟩:∃W,(v1.alloc (.cells #[.slice o1 n1 c1] 63))=W:=⟨_,rfl⟩
  have hb_W2:Below v1.heap.size v1 W2:=by rw [←hW2];exact ((Below.refl _ _).alloc (Kaq _) _)
  replace z0:W2.cell? ⟨w.heap.size,0,none⟩=some (.int .i64 m.id):=(hb_W2.cell (p:=⟨w.heap.size,0,none⟩) zz).trans z0
  replace z1:W2.cell? ⟨w.heap.size,1,none⟩=some (.int .i64 m.lim):=(hb_W2.cell (p:=⟨w.heap.size,1,none⟩) zz).trans z1
  replace z2:W2.cell? ⟨w.heap.size,2,none⟩=some (.bool m.dr):=(hb_W2.cell (p:=⟨w.heap.size,2,none⟩) zz).trans z2
  replace z3:W2.cell? ⟨w.heap.size,3,none⟩=some (.slice oc m.c.length cc):=(hb_W2.cell (p:=⟨w.heap.size,3,none⟩) zz).trans z3
  replace z4:W2.cell? ⟨w.heap.size,4,none⟩=some (.slice ot m.t.length ct):=(hb_W2.cell (p:=⟨w.heap.size,4,none⟩) zz).trans z4
  replace zz:w.heap.size < W2.heap.size:=Kbq zz hb_W2.size
  replace r0:W2.cell? ⟨w.heap.size+1,0,none⟩=some (.slice none 0 0):=(hb_W2.cell (p:=⟨w.heap.size+1,0,none⟩) zr).trans r0
  replace r1:W2.cell? ⟨w.heap.size+1,1,none⟩=some (.slice none 0 0):=(hb_W2.cell (p:=⟨w.heap.size+1,1,none⟩) zr).trans r1
  replace r2:W2.cell? ⟨w.heap.size+1,2,none⟩=some (.int .i64 0):=(hb_W2.cell (p:=⟨w.heap.size+1,2,none⟩) zr).trans r2
  replace r3:W2.cell? ⟨w.heap.size+1,3,none⟩=some (.int .i64 0):=(hb_W2.cell (p:=⟨w.heap.size+1,3,none⟩) zr).trans r3
  replace r4:W2.cell? ⟨w.heap.size+1,4,none⟩=some (.bool false):=(hb_W2.cell (p:=⟨w.heap.size+1,4,none⟩) zr).trans r4
  replace fr0:W2.frozen? ⟨w.heap.size+1,0,none⟩=false:=(hb_W2.frozen (p:=⟨w.heap.size+1,0,none⟩) zr).trans fr0
  replace fr1:W2.frozen? ⟨w.heap.size+1,1,none⟩=false:=(hb_W2.frozen (p:=⟨w.heap.size+1,1,none⟩) zr).trans fr1
  replace fr2:W2.frozen? ⟨w.heap.size+1,2,none⟩=false:=(hb_W2.frozen (p:=⟨w.heap.size+1,2,none⟩) zr).trans fr2
  replace fr3:W2.frozen? ⟨w.heap.size+1,3,none⟩=false:=(hb_W2.frozen (p:=⟨w.heap.size+1,3,none⟩) zr).trans fr3
  replace fr4:W2.frozen? ⟨w.heap.size+1,4,none⟩=false:=(hb_W2.frozen (p:=⟨w.heap.size+1,4,none⟩) zr).trans fr4
  replace zr:w.heap.size+1 < W2.heap.size:=Kbq zr hb_W2.size
  replace HB:=Q00 (HB.out.trans (hb_W2.mono HB.out.size))
  clear hb_W2
  have zx:v1.heap.size < W2.heap.size:=by rw [←hW2];simp
  have x0:W2.cell? ⟨v1.heap.size,0,none⟩=some (.slice o1 n1 c1):=by rw [←hW2];simp [go_sem]
  go_wp2_with fail
  refine (H2.out W2 HB.out).mono ?_
  rintro e v2 ⟨o2,n2,c2,rfl,hv2,hb⟩
  clear hv2
  replace z0:v2.cell? ⟨w.heap.size,0,none⟩=some (.int .i64 m.id):=(hb.cell (p:=⟨w.heap.size,0,none⟩) zz).trans z0
  replace z1:v2.cell? ⟨w.heap.size,1,none⟩=some (.int .i64 m.lim):=(hb.cell (p:=⟨w.heap.size,1,none⟩) zz).trans z1
  replace z2:v2.cell? ⟨w.heap.size,2,none⟩=some (.bool m.dr):=(hb.cell (p:=⟨w.heap.size,2,none⟩) zz).trans z2
  replace z3:v2.cell? ⟨w.heap.size,3,none⟩=some (.slice oc m.c.length cc):=(hb.cell (p:=⟨w.heap.size,3,none⟩) zz).trans z3
  replace z4:v2.cell? ⟨w.heap.size,4,none⟩=some (.slice ot m.t.length ct):=(hb.cell (p:=⟨w.heap.size,4,none⟩) zz).trans z4
  replace zz:w.heap.size < v2.heap.size:=Kbq zz hb.size
  replace r0:v2.cell? ⟨w.heap.size+1,0,none⟩=some (.slice none 0 0):=(hb.cell (p:=⟨w.heap.size+1,0,none⟩) zr).trans r0
  replace r1:v2.cell? ⟨w.heap.size+1,1,none⟩=some (.slice none 0 0):=(hb.cell (p:=⟨w.heap.size+1,1,none⟩) zr).trans r1
  replace r2:v2.cell? ⟨w.heap.size+1,2,none⟩=some (.int .i64 0):=(hb.cell (p:=⟨w.heap.size+1,2,none⟩) zr).trans r2
  replace r3:v2.cell? ⟨w.heap.size+1,3,none⟩=some (.int .i64 0):=(hb.cell (p:=⟨w.heap.size+1,3,none⟩) zr).trans r3
  replace r4:v2.cell? ⟨w.heap.size+1,4,none⟩=some (.bool false):=(hb.cell (p:=⟨w.heap.size+1,4,none⟩) zr).trans r4
  replace fr0:v2.frozen? ⟨w.heap.size+1,0,none⟩=false:=(hb.frozen (p:=⟨w.heap.size+1,0,none⟩) zr).trans fr0
  replace fr1:v2.frozen? ⟨w.heap.size+1,1,none⟩=false:=(hb.frozen (p:=⟨w.heap.size+1,1,none⟩) zr).trans fr1
  replace fr2:v2.frozen? ⟨w.heap.size+1,2,none⟩=false:=(hb.frozen (p:=⟨w.heap.size+1,2,none⟩) zr).trans fr2
  replace fr3:v2.frozen? ⟨w.heap.size+1,3,none⟩=false:=(hb.frozen (p:=⟨w.heap.size+1,3,none⟩) zr).trans fr3
  replace fr4:v2.frozen? ⟨w.heap.size+1,4,none⟩=false:=(hb.frozen (p:=⟨w.heap.size+1,4,none⟩) zr).trans fr4
  replace zr:w.heap.size+1 < v2.heap.size:=Kbq zr hb.size
  replace x0:v2.cell? ⟨v1.heap.size,0,none⟩=some (.slice o1 n1 c1):=(hb.cell (p:=⟨v1.heap.size,0,none⟩) zx).trans x0
  replace zx:v1.heap.size < v2.heap.size:=Kbq zx hb.size
  replace HB:=Q00 (HB.out.trans (hb.mono HB.out.size))
  clear hb
  obtain ⟨W4,hW4⟩:∃W,(v2.alloc (.cells #[.slice o2 n2 c2] 63))=W:=⟨_,rfl⟩
  have hb_W4:Below v2.heap.size v2 W4:=by rw [←hW4];exact ((Below.refl _ _).alloc (Kaq _) _)
  replace z0:W4.cell? ⟨w.heap.size,0,none⟩=some (.int .i64 m.id):=(hb_W4.cell (p:=⟨w.heap.size,0,none⟩) zz).trans z0
  replace z1:W4.cell? ⟨w.heap.size,1,none⟩=some (.int .i64 m.lim):=(hb_W4.cell (p:=⟨w.heap.size,1,none⟩) zz).trans z1
  replace z2:W4.cell? ⟨w.heap.size,2,none⟩=some (.bool m.dr):=(hb_W4.cell (p:=⟨w.heap.size,2,none⟩) zz).trans z2
  replace z3:W4.cell? ⟨w.heap.size,3,none⟩=some (.slice oc m.c.length cc):=(hb_W4.cell (p:=⟨w.heap.size,3,none⟩) zz).trans z3
  replace z4:W4.cell? ⟨w.heap.size,4,none⟩=some (.slice ot m.t.length ct):=(hb_W4.cell (p:=⟨w.heap.size,4,none⟩) zz).trans z4
  replace zz:w.heap.size < W4.heap.size:=Kbq zz hb_W4.size
  replace r0:W4.cell? ⟨w.heap.size+1,0,none⟩=some (.slice none 0 0):=(hb_W4.cell (p:=⟨w.heap.size+1,0,none⟩) zr).trans r0
  replace r1:W4.cell? ⟨w.heap.size+1,1,none⟩=some (.slice none 0 0):=(hb_W4.cell (p:=⟨w.heap.size+1,1,none⟩) zr).trans r1
  replace r2:W4.cell? ⟨w.heap.size+1,2,none⟩=some (.int .i64 0):=(hb_W4.cell (p:=⟨w.heap.size+1,2,none⟩) zr).trans r2
  replace r3:W4.cell? ⟨w.heap.size+1,3,none⟩=some (.int .i64 0):=(hb_W4.cell (p:=⟨w.heap.size+1,3,none⟩) zr).trans r3
  replace r4:W4.cell? ⟨w.heap.size+1,4,none⟩=some (.bool false):=(hb_W4.cell (p:=⟨w.heap.size+1,4,none⟩) zr).trans r4
  replace fr0:W4.frozen? ⟨w.heap.size+1,0,none⟩=false:=(hb_W4.frozen (p:=⟨w.heap.size+1,0,none⟩) zr).trans fr0
  replace fr1:W4.frozen? ⟨w.heap.size+1,1,none⟩=false:=(hb_W4.frozen (p:=⟨w.heap.size+1,1,none⟩) zr).trans fr1
  replace fr2:W4.frozen? ⟨w.heap.size+1,2,none⟩=false:=(hb_W4.frozen (p:=⟨w.heap.size+1,2,none⟩) zr).trans fr2
  replace fr3:W4.frozen? ⟨w.heap.size+1,3,none⟩=false:=(hb_W4.frozen (p:=⟨w.heap.size+1,3,none⟩) zr).trans fr3
  replace fr4:W4.frozen? ⟨w.heap.size+1,4,none⟩=false:=(hb_W4.frozen (p:=⟨w.heap.size+1,4,none⟩) zr).trans fr4
  replace zr:w.heap.size+1 < W4.heap.size:=Kbq zr hb_W4.size
  replace x0:W4.cell? ⟨v1.heap.size,0,none⟩=some (.slice o1 n1 c1):=(hb_W4.cell (p:=⟨v1.heap.size,0,none⟩) zx).trans x0
  replace zx:v1.heap.size < W4.heap.size:=Kbq zx hb_W4.size
  replace HB:=Q00 (HB.out.trans (hb_W4.mono HB.out.size))
  clear hb_W4
  have zy:v2.heap.size < W4.heap.size:=by rw [←hW4];simp
  have y0:W4.cell? ⟨v2.heap.size,0,none⟩=some (.slice o2 n2 c2):=by rw [←hW4];simp [go_sem]
  clear HE
  cases t1 <;> cases t2 <;> cases bk <;> cases bl <;> first|(exfalso;simp at hall;done)|skip
  all_goals (
   clear hall
   go_wp2_with (first|(go_at_call 50;refine (hbk _).mono ?_;rintro e w9 ⟨rfl,rfl⟩)|(go_at_call 40;refine (hli _).mono ?_;rintro e w9 ⟨rfl,rfl⟩))
   refine bodyPost_ret (v:=.tuple #[agi (.slice none 0 0) (.slice none 0 0) 0 0 false,.bool false]) (by simp [results,Try.results26,go_sem,r0,r1,r2,r3,r4]) rfl ⟨_,_,_,_,_,_,_,_,_,by rw [HN.out],fun h=> absurd (h.symm.trans HN.out) (by decide),Q07 HB.out (by omega) _ _ _ _ _⟩)
theorem Q4g (v:Value) (m:Am) (lo hi:Nat) (w:World) (hO:OwnG lo hi w v m) (hf:m.c.length+m.t.length≤1048576):
  Calls Try.prog 30 #[v] w fun e w'=> ∃v',e=.returned v'∧InA w.heap.size w'.heap.size w' v' m∧Below w.heap.size w w':=by
 obtain ⟨g,h,mid,rfl,i1,i2,hm1,hm2⟩:=hO
 have zg:=(i1.1.lt g rfl).2
 have zh:=(i2.1.lt h rfl).2
 have HC1:=Q00 (Q0n i1.1 rfl)
 have HC2:=Q00 (Q0n i2.1 rfl)
 clear i1 i2 hm1 hm2
 obtain ⟨W0,hW0⟩:∃W,((w.alloc (.cells #[.slice (some ⟨g,0,none⟩) m.c.length m.c.length,.slice (some ⟨h,0,none⟩) m.t.length m.t.length,.int .i64 m.id,.int .i64 m.lim,.bool m.dr] 68)).alloc (.cells #[.int .i64 0,.int .i64 0,.bool false,.slice none 0 0,.slice none 0 0] 27))=W:=⟨_,rfl⟩
 have hb_W0:Below w.heap.size w W0:=by rw [←hW0];exact (((Below.refl _ _).alloc (Kaq _) _).alloc (by simp <;> omega) _)
 have HB:=Q00 hb_W0
 clear hb_W0
 have zz:w.heap.size < W0.heap.size:=by rw [←hW0];simp <;> omega
 have z0:W0.cell? ⟨w.heap.size,0,none⟩=some (.slice (some ⟨g,0,none⟩) m.c.length m.c.length):=by rw [←hW0];simp [go_sem]
 have z1:W0.cell? ⟨w.heap.size,1,none⟩=some (.slice (some ⟨h,0,none⟩) m.t.length m.t.length):=by rw [←hW0];simp [go_sem]
 have z2:W0.cell? ⟨w.heap.size,2,none⟩=some (.int .i64 m.id):=by rw [←hW0];simp [go_sem]
 have z3:W0.cell? ⟨w.heap.size,3,none⟩=some (.int .i64 m.lim):=by rw [←hW0];simp [go_sem]
 have z4:W0.cell? ⟨w.heap.size,4,none⟩=some (.bool m.dr):=by rw [←hW0];simp [go_sem]
 have zr:w.heap.size+1 < W0.heap.size:=by rw [←hW0];simp
 have r0:W0.cell? ⟨w.heap.size+1,0,none⟩=some (.int .i64 0):=by rw [←hW0];simp [go_sem]
 have r1:W0.cell? ⟨w.heap.size+1,1,none⟩=some (.int .i64 0):=by rw [←hW0];simp [go_sem]
 have r2:W0.cell? ⟨w.heap.size+1,2,none⟩=some (.bool false):=by rw [←hW0];simp [go_sem]
 have r3:W0.cell? ⟨w.heap.size+1,3,none⟩=some (.slice none 0 0):=by rw [←hW0];simp [go_sem]
 have r4:W0.cell? ⟨w.heap.size+1,4,none⟩=some (.slice none 0 0):=by rw [←hW0];simp [go_sem]
 have fr0:W0.frozen? ⟨w.heap.size+1,0,none⟩=false:=by rw [←hW0];simp [go_sem]
 have fr1:W0.frozen? ⟨w.heap.size+1,1,none⟩=false:=by rw [←hW0];simp [go_sem]
 have fr2:W0.frozen? ⟨w.heap.size+1,2,none⟩=false:=by rw [←hW0];simp [go_sem]
 have fr3:W0.frozen? ⟨w.heap.size+1,3,none⟩=false:=by rw [←hW0];simp [go_sem]
 have fr4:W0.frozen? ⟨w.heap.size+1,4,none⟩=false:=by rw [←hW0];simp [go_sem]
 have hz1:w.heap.size+1 < W0.heap.size:=zr
 have HBd:=Q00 (Below.drew HB.out)
 have h1:=Q2v g 0 m.c.length m.c W0.drew (Kbq zg HBd.out.size) (fun i hi j hj=> (HBd.out.cell (p:=⟨g,0+i * Q0e.k+j,none⟩) zg).trans (HC1.out i hi j hj)) (by omega)
 have h2:=fun W (hb:Below w.heap.size w W)=> Q2v h 0 m.t.length m.t W (Kbq zh hb.size) (fun i hi j hj=> (hb.cell (p:=⟨h,0+i * Q0e.k+j,none⟩) zh).trans (HC2.out i hi j hj)) (by omega)
 have H1:=Q00 h1
 have H2:=Q00 h2
 clear h1 h2
 go_enter Try.func30,Try.ntmps30
 go_wp2
 go_region_held3 (fun w'=> w'.cell? ⟨w.heap.size,0,none⟩=some (.slice (some ⟨g,0,none⟩) m.c.length m.c.length)∧w'.cell? ⟨w.heap.size,1,none⟩=some (.slice (some ⟨h,0,none⟩) m.t.length m.t.length)∧w'.cell? ⟨w.heap.size,2,none⟩=some (.int .i64 m.id)∧w'.cell? ⟨w.heap.size,3,none⟩=some (.int .i64 m.lim)∧w'.cell? ⟨w.heap.size,4,none⟩=some (.bool m.dr)) (first|with_reducible exact ⟨qz0,qz1,qz2,qz3,qz4⟩|with_reducible exact ⟨pz0,pz1,pz2,pz3,pz4⟩|with_reducible exact ⟨Q1J qz0 (Nat.lt_succ_self _),Q1J qz1 (Nat.lt_succ_self _),Q1J qz2 (Nat.lt_succ_self _),Q1J qz3 (Nat.lt_succ_self _),Q1J qz4 (Nat.lt_succ_self _)⟩|exact ⟨z0,z1,z2,z3,z4⟩|go_keep) (first|(go_at_call 59;(with_reducible refine H1.out.mono ?_);rintro e v1 ⟨g1,rfl,hw1,hb⟩;have hp1:Below W0.heap.size W0 v1:=(Below.drew (Below.refl _ _)).trans hb;have HB1:=Q00 (HB.out.trans (hp1.mono HB.out.size));have HO1:=Q00 hw1;clear hb hw1;have pz0:=(hp1.cell (p:=⟨w.heap.size,0,none⟩) zz).trans z0;have pz1:=(hp1.cell (p:=⟨w.heap.size,1,none⟩) zz).trans z1;have pz2:=(hp1.cell (p:=⟨w.heap.size,2,none⟩) zz).trans z2;have pz3:=(hp1.cell (p:=⟨w.heap.size,3,none⟩) zz).trans z3;have pz4:=(hp1.cell (p:=⟨w.heap.size,4,none⟩) zz).trans z4;have pr0:=(hp1.cell (p:=⟨w.heap.size+1,0,none⟩) zr).trans r0;have pr1:=(hp1.cell (p:=⟨w.heap.size+1,1,none⟩) zr).trans r1;have pr2:=(hp1.cell (p:=⟨w.heap.size+1,2,none⟩) zr).trans r2;have pr3:=(hp1.cell (p:=⟨w.heap.size+1,3,none⟩) zr).trans r3;have pr4:=(hp1.cell (p:=⟨w.heap.size+1,4,none⟩) zr).trans r4;have pf0:=(hp1.frozen (p:=⟨w.heap.size+1,0,none⟩) zr).trans fr0;have pf1:=(hp1.frozen (p:=⟨w.heap.size+1,1,none⟩) zr).trans fr1;have pf2:=(hp1.frozen (p:=⟨w.heap.size+1,2,none⟩) zr).trans fr2;have pf3:=(hp1.frozen (p:=⟨w.heap.size+1,3,none⟩) zr).trans fr3;have pf4:=(hp1.frozen (p:=⟨w.heap.size+1,4,none⟩) zr).trans fr4)|(go_at_call 59;(with_reducible refine (H2.out v1 HB1.out).mono ?_);rintro e v2 ⟨g2,rfl,hw2,hb⟩;have hp2:Below W0.heap.size W0 v2:=hp1.trans (hb.mono hp1.size);have HK1:=Q00 (Q0a HO1.out hb);have HO2:=Q00 hw2;have HB2:=Q00 (HB1.out.trans (hb.mono HB1.out.size));have hs21:=hb.size;clear hb hw2;have qz0:=(hp2.cell (p:=⟨w.heap.size,0,none⟩) zz).trans z0;have qz1:=(hp2.cell (p:=⟨w.heap.size,1,none⟩) zz).trans z1;have qz2:=(hp2.cell (p:=⟨w.heap.size,2,none⟩) zz).trans z2;have qz3:=(hp2.cell (p:=⟨w.heap.size,3,none⟩) zz).trans z3;have qz4:=(hp2.cell (p:=⟨w.heap.size,4,none⟩) zz).trans z4;have qr0:=(hp2.cell (p:=⟨w.heap.size+1,0,none⟩) zr).trans r0;have qr1:=(hp2.cell (p:=⟨w.heap.size+1,1,none⟩) zr).trans r1;have qr2:=(hp2.cell (p:=⟨w.heap.size+1,2,none⟩) zr).trans r2;have qr3:=(hp2.cell (p:=⟨w.heap.size+1,3,none⟩) zr).trans r3;have qr4:=(hp2.cell (p:=⟨w.heap.size+1,4,none⟩) zr).trans r4;have qf0:=(hp2.frozen (p:=⟨w.heap.size+1,0,none⟩) zr).trans fr0;have qf1:=(hp2.frozen (p:=⟨w.heap.size+1,1,none⟩) zr).trans fr1;have qf2:=(hp2.frozen (p:=⟨w.heap.size+1,2,none⟩) zr).trans fr2;have qf3:=(hp2.frozen (p:=⟨w.heap.size+1,3,none⟩) zr).trans fr3;have qf4:=(hp2.frozen (p:=⟨w.heap.size+1,4,none⟩) zr).trans fr4)|fail)
 have hs10:=hp1.size
 go_wp2
 refine bodyPost_ret (v:=agt m.id m.lim m.dr (.slice (some ⟨g1,0,none⟩) m.c.length m.c.length) (.slice (some ⟨g2,0,none⟩) m.t.length m.t.length)) (by simp [results,Try.results30,go_sem,qr0,qr1,qr2,qr3,qr4]) rfl ⟨_,rfl, ?_, ?_⟩
 ·refine InA.mono (a:=W0.heap.size) (InA.step (lo:=w.heap.size+1) (hi:=w.heap.size+1+1) (w:=v2) ⟨_,_,v1.heap.size,rfl,⟨HK1.out,fun b e=> ?_⟩,InRow.of HO2.out,hs10,hs21⟩ (Q04 v2 (w.heap.size+1) _ _ _ _ _) (.inl (by omega))) (by omega) (by rw [Q18];exact Kaq _)
  exact (HO1.out.lt b e).2
 ·exact Q07 HB2.out (by omega) _ _ _ _ _
theorem Q2w (v:Value) (m:Am) (w:World) (hR:RdA w.heap.size w v m) (hf:m.c.length+m.t.length≤1048576):
  Calls Try.prog 9 #[v] w fun e w'=> e=.returned (.bool (Q0o m))∧Below w.heap.size w w':=by
 have hR0:=hR
 obtain ⟨vc,vt,rfl,⟨oc,cc,rfl,rc⟩,⟨ot,ct,rfl,rt⟩⟩:=hR0
 clear rc rt
 obtain ⟨W0,hW0⟩:∃W,(w.alloc (.cells #[.int .i64 m.id,.int .i64 m.lim,.bool m.dr,.slice oc m.c.length cc,.slice ot m.t.length ct] 27))=W:=⟨_,rfl⟩
 have hb_W0:Below w.heap.size w W0:=by rw [←hW0];exact ((Below.refl _ _).alloc (Kaq _) _)
 have HB:=Q00 hb_W0
 clear hb_W0
 have zz:w.heap.size < W0.heap.size:=by rw [←hW0];simp
 have z0:W0.cell? ⟨w.heap.size,0,none⟩=some (.int .i64 m.id):=by rw [←hW0];simp [go_sem]
 have z1:W0.cell? ⟨w.heap.size,1,none⟩=some (.int .i64 m.lim):=by rw [←hW0];simp [go_sem]
 have z2:W0.cell? ⟨w.heap.size,2,none⟩=some (.bool m.dr):=by rw [←hW0];simp [go_sem]
 have z3:W0.cell? ⟨w.heap.size,3,none⟩=some (.slice oc m.c.length cc):=by rw [←hW0];simp [go_sem]
 have z4:W0.cell? ⟨w.heap.size,4,none⟩=some (.slice ot m.t.length ct):=by rw [←hW0];simp [go_sem]
 have h1:=Q1m _ m W0 ((hR.kept HB.out (Kaq _)).le HB.out.size) hf
 go_enter Try.func9,Try.ntmps9
 go_wp2_with fail
 refine (h1).mono ?_
 rintro e v1 ⟨o1,n1,c1,o2,n2,c2,i,l,d,rfl,hv,hb⟩
 clear hv
 replace z0:v1.cell? ⟨w.heap.size,0,none⟩=some (.int .i64 m.id):=(hb.cell (p:=⟨w.heap.size,0,none⟩) zz).trans z0
 replace z1:v1.cell? ⟨w.heap.size,1,none⟩=some (.int .i64 m.lim):=(hb.cell (p:=⟨w.heap.size,1,none⟩) zz).trans z1
 replace z2:v1.cell? ⟨w.heap.size,2,none⟩=some (.bool m.dr):=(hb.cell (p:=⟨w.heap.size,2,none⟩) zz).trans z2
 replace z3:v1.cell? ⟨w.heap.size,3,none⟩=some (.slice oc m.c.length cc):=(hb.cell (p:=⟨w.heap.size,3,none⟩) zz).trans z3
 replace z4:v1.cell? ⟨w.heap.size,4,none⟩=some (.slice ot m.t.length ct):=(hb.cell (p:=⟨w.heap.size,4,none⟩) zz).trans z4
 replace zz:w.heap.size < v1.heap.size:=Kbq zz hb.size
 replace HB:=Q00 (HB.out.trans (hb.mono HB.out.size))
 clear hb
 clear h1
 go_wp2
 go_ret
 exact ⟨rfl,HB.out.alloc HB.out.size _⟩
theorem Q4z {l:List Sl} {a p:Int} (h:(Q0m l a p).2=false):Q5B l a p=sl0:=by unfold Q5B;rw [h];rfl
theorem Q5y {l:List Sl} {a p:Int} {k:Nat} (h:Q0m l a p=((k:Int),true)):Q5B l a p=l.getD k sl0:=by unfold Q5B;rw [h];simp
theorem Q3D (b off c:Nat) (l:List Sl) (a p:Int) (w:World) (hn:0 < l.length) (hl:l.length≤1048576) (hf:Q0c a p=true) (hbl:b < w.heap.size) (hc:∀i,i < l.length→∀j,j < Q0e.k→w.cell? ⟨b,off+i * Q0e.k+j,none⟩=(Q0e.cs (l.getD i Q0e.d))[j]?):
  Calls Try.prog 61 #[tab (.slice (some ⟨b,off,none⟩) l.length c),Q2S a p] w fun e w'=> e=.returned (.tuple #[slot (Q5B l a p),.bool (Q0m l a p).2])∧Below w.heap.size w w':=by
 have HC:=Q00 hc
 clear hc
 obtain ⟨W0,hW0⟩:∃W,(((w.alloc (.cells #[.slice (some ⟨b,off,none⟩) l.length c] 25)).alloc (.cells #[.int .i64 a,.int .i64 p] 29)).alloc (.cells #[.bool false,.int .i64 0,.int .i64 0,.int .i64 0,.int .i64 0] 84))=W:=⟨_,rfl⟩
 have hb_W0:Below w.heap.size w W0:=by rw [←hW0];exact ((((Below.refl _ _).alloc (Kaq _) _).alloc (by simp <;> omega) _).alloc (by simp <;> omega) _)
 have HB:=Q00 hb_W0
 clear hb_W0
 have zct:w.heap.size < W0.heap.size:=by rw [←hW0];simp <;> omega
 have ct0:W0.cell? ⟨w.heap.size,0,none⟩=some (.slice (some ⟨b,off,none⟩) l.length c):=by rw [←hW0];simp [go_sem]
 have zcf:w.heap.size+1 < W0.heap.size:=by rw [←hW0];simp <;> omega
 have cf0:W0.cell? ⟨w.heap.size+1,0,none⟩=some (.int .i64 a):=by rw [←hW0];simp [go_sem]
 have cf1:W0.cell? ⟨w.heap.size+1,1,none⟩=some (.int .i64 p):=by rw [←hW0];simp [go_sem]
 have zcr:w.heap.size+1+1 < W0.heap.size:=by rw [←hW0];simp
 have cr0:W0.cell? ⟨w.heap.size+1+1,0,none⟩=some (.bool false):=by rw [←hW0];simp [go_sem]
 have cr1:W0.cell? ⟨w.heap.size+1+1,1,none⟩=some (.int .i64 0):=by rw [←hW0];simp [go_sem]
 have cr2:W0.cell? ⟨w.heap.size+1+1,2,none⟩=some (.int .i64 0):=by rw [←hW0];simp [go_sem]
 have cr3:W0.cell? ⟨w.heap.size+1+1,3,none⟩=some (.int .i64 0):=by rw [←hW0];simp [go_sem]
 have cr4:W0.cell? ⟨w.heap.size+1+1,4,none⟩=some (.int .i64 0):=by rw [←hW0];simp [go_sem]
 have fcr0:W0.frozen? ⟨w.heap.size+1+1,0,none⟩=false:=by rw [←hW0];simp [go_sem]
 have fcr1:W0.frozen? ⟨w.heap.size+1+1,1,none⟩=false:=by rw [←hW0];simp [go_sem]
 have fcr2:W0.frozen? ⟨w.heap.size+1+1,2,none⟩=false:=by rw [←hW0];simp [go_sem]
 have fcr3:W0.frozen? ⟨w.heap.size+1+1,3,none⟩=false:=by rw [←hW0];simp [go_sem]
 have fcr4:W0.frozen? ⟨w.heap.size+1+1,4,none⟩=false:=by rw [←hW0];simp [go_sem]
 have hat:=Q3g (some ⟨b,off,none⟩) c l a p W0 (.inr ⟨b,off,rfl,Kbq hbl HB.out.size,(fun i hi j hj=> (HB.out.cell (p:=⟨b,off+i * Q0e.k+j,none⟩) hbl).trans (HC.out i hi j hj))⟩) hn hl hf
 rcases Q0C l hn a p with hE|⟨k,hk,⟨hE,_⟩|⟨hE,_⟩⟩
 ·skip
  have HM:=Q00 (Q4z (l:=l) (a:=a) (p:=p) (by rw [hE]))
  have HE:=Q00 hE
  rw [hE] at hat
  clear hE
  go_enter Try.func61,Try.ntmps61
  go_wp2_with fail
  refine (hat).mono ?_
  rintro e v1 ⟨rfl,hb⟩
  replace ct0:v1.cell? ⟨w.heap.size,0,none⟩=some (.slice (some ⟨b,off,none⟩) l.length c):=(hb.cell (p:=⟨w.heap.size,0,none⟩) zct).trans ct0
  replace zct:w.heap.size < v1.heap.size:=Kbq zct hb.size
  replace cf0:v1.cell? ⟨w.heap.size+1,0,none⟩=some (.int .i64 a):=(hb.cell (p:=⟨w.heap.size+1,0,none⟩) zcf).trans cf0
  replace cf1:v1.cell? ⟨w.heap.size+1,1,none⟩=some (.int .i64 p):=(hb.cell (p:=⟨w.heap.size+1,1,none⟩) zcf).trans cf1
  replace zcf:w.heap.size+1 < v1.heap.size:=Kbq zcf hb.size
  replace cr0:v1.cell? ⟨w.heap.size+1+1,0,none⟩=some (.bool false):=(hb.cell (p:=⟨w.heap.size+1+1,0,none⟩) zcr).trans cr0
  replace cr1:v1.cell? ⟨w.heap.size+1+1,1,none⟩=some (.int .i64 0):=(hb.cell (p:=⟨w.heap.size+1+1,1,none⟩) zcr).trans cr1
  replace cr2:v1.cell? ⟨w.heap.size+1+1,2,none⟩=some (.int .i64 0):=(hb.cell (p:=⟨w.heap.size+1+1,2,none⟩) zcr).trans cr2
  replace cr3:v1.cell? ⟨w.heap.size+1+1,3,none⟩=some (.int .i64 0):=(hb.cell (p:=⟨w.heap.size+1+1,3,none⟩) zcr).trans cr3
  replace cr4:v1.cell? ⟨w.heap.size+1+1,4,none⟩=some (.int .i64 0):=(hb.cell (p:=⟨w.heap.size+1+1,4,none⟩) zcr).trans cr4
  replace fcr0:v1.frozen? ⟨w.heap.size+1+1,0,none⟩=false:=(hb.frozen (p:=⟨w.heap.size+1+1,0,none⟩) zcr).trans fcr0
  replace fcr1:v1.frozen? ⟨w.heap.size+1+1,1,none⟩=false:=(hb.frozen (p:=⟨w.heap.size+1+1,1,none⟩) zcr).trans fcr1
  replace fcr2:v1.frozen? ⟨w.heap.size+1+1,2,none⟩=false:=(hb.frozen (p:=⟨w.heap.size+1+1,2,none⟩) zcr).trans fcr2
  replace fcr3:v1.frozen? ⟨w.heap.size+1+1,3,none⟩=false:=(hb.frozen (p:=⟨w.heap.size+1+1,3,none⟩) zcr).trans fcr3
  replace fcr4:v1.frozen? ⟨w.heap.size+1+1,4,none⟩=false:=(hb.frozen (p:=⟨w.heap.size+1+1,4,none⟩) zcr).trans fcr4
  replace zcr:w.heap.size+1+1 < v1.heap.size:=Kbq zcr hb.size
  replace HB:=Q00 (HB.out.trans (hb.mono HB.out.size))
  clear hb
  clear hat
  go_wp2
  refine bodyPost_ret (v:=.tuple #[slot sl0,.bool false]) (by simp [results,Try.results61,go_sem,cr0,cr1,cr2,cr3,cr4]) rfl ⟨by rw [HM.out,HE.out],Q1q (s:=sl0) HB.out (by omega)⟩
 ·skip
  have HM:=Q00 (Q4z (l:=l) (a:=a) (p:=p) (by rw [hE]))
  have HE:=Q00 hE
  rw [hE] at hat
  clear hE
  go_enter Try.func61,Try.ntmps61
  go_wp2_with fail
  refine (hat).mono ?_
  rintro e v1 ⟨rfl,hb⟩
  replace ct0:v1.cell? ⟨w.heap.size,0,none⟩=some (.slice (some ⟨b,off,none⟩) l.length c):=(hb.cell (p:=⟨w.heap.size,0,none⟩) zct).trans ct0
  replace zct:w.heap.size < v1.heap.size:=Kbq zct hb.size
  replace cf0:v1.cell? ⟨w.heap.size+1,0,none⟩=some (.int .i64 a):=(hb.cell (p:=⟨w.heap.size+1,0,none⟩) zcf).trans cf0
  replace cf1:v1.cell? ⟨w.heap.size+1,1,none⟩=some (.int .i64 p):=(hb.cell (p:=⟨w.heap.size+1,1,none⟩) zcf).trans cf1
  replace zcf:w.heap.size+1 < v1.heap.size:=Kbq zcf hb.size
  replace cr0:v1.cell? ⟨w.heap.size+1+1,0,none⟩=some (.bool false):=(hb.cell (p:=⟨w.heap.size+1+1,0,none⟩) zcr).trans cr0
  replace cr1:v1.cell? ⟨w.heap.size+1+1,1,none⟩=some (.int .i64 0):=(hb.cell (p:=⟨w.heap.size+1+1,1,none⟩) zcr).trans cr1
  replace cr2:v1.cell? ⟨w.heap.size+1+1,2,none⟩=some (.int .i64 0):=(hb.cell (p:=⟨w.heap.size+1+1,2,none⟩) zcr).trans cr2
  replace cr3:v1.cell? ⟨w.heap.size+1+1,3,none⟩=some (.int .i64 0):=(hb.cell (p:=⟨w.heap.size+1+1,3,none⟩) zcr).trans cr3
  replace cr4:v1.cell? ⟨w.heap.size+1+1,4,none⟩=some (.int .i64 0):=(hb.cell (p:=⟨w.heap.size+1+1,4,none⟩) zcr).trans cr4
  replace fcr0:v1.frozen? ⟨w.heap.size+1+1,0,none⟩=false:=(hb.frozen (p:=⟨w.heap.size+1+1,0,none⟩) zcr).trans fcr0
  replace fcr1:v1.frozen? ⟨w.heap.size+1+1,1,none⟩=false:=(hb.frozen (p:=⟨w.heap.size+1+1,1,none⟩) zcr).trans fcr1
  replace fcr2:v1.frozen? ⟨w.heap.size+1+1,2,none⟩=false:=(hb.frozen (p:=⟨w.heap.size+1+1,2,none⟩) zcr).trans fcr2
  replace fcr3:v1.frozen? ⟨w.heap.size+1+1,3,none⟩=false:=(hb.frozen (p:=⟨w.heap.size+1+1,3,none⟩) zcr).trans fcr3
  replace fcr4:v1.frozen? ⟨w.heap.size+1+1,4,none⟩=false:=(hb.frozen (p:=⟨w.heap.size+1+1,4,none⟩) zcr).trans fcr4
  replace zcr:w.heap.size+1+1 < v1.heap.size:=Kbq zcr hb.size
  replace HB:=Q00 (HB.out.trans (hb.mono HB.out.size))
  clear hb
  clear hat
  go_wp2
  refine bodyPost_ret (v:=.tuple #[slot sl0,.bool false]) (by simp [results,Try.results61,go_sem,cr0,cr1,cr2,cr3,cr4]) rfl ⟨by rw [HM.out,HE.out],Q1q (s:=sl0) HB.out (by omega)⟩
 ·skip
  have HM:=Q00 (Q5y hE)
  have HE:=Q00 hE
  rw [hE] at hat
  clear hE
  have hcx:=RdL.slot (C:=w.heap.size) HC.out k hk
  obtain ⟨s,hxy⟩:∃s,l.getD k sl0=s:=⟨_,rfl⟩
  rw [hxy] at hcx HM
  clear hxy
  have hk':(k:Int) < (l.length:Int):=by omega
  go_enter Try.func61,Try.ntmps61
  go_wp2_with fail
  refine (hat).mono ?_
  rintro e v1 ⟨rfl,hb⟩
  replace ct0:v1.cell? ⟨w.heap.size,0,none⟩=some (.slice (some ⟨b,off,none⟩) l.length c):=(hb.cell (p:=⟨w.heap.size,0,none⟩) zct).trans ct0
  replace zct:w.heap.size < v1.heap.size:=Kbq zct hb.size
  replace cf0:v1.cell? ⟨w.heap.size+1,0,none⟩=some (.int .i64 a):=(hb.cell (p:=⟨w.heap.size+1,0,none⟩) zcf).trans cf0
  replace cf1:v1.cell? ⟨w.heap.size+1,1,none⟩=some (.int .i64 p):=(hb.cell (p:=⟨w.heap.size+1,1,none⟩) zcf).trans cf1
  replace zcf:w.heap.size+1 < v1.heap.size:=Kbq zcf hb.size
  replace cr0:v1.cell? ⟨w.heap.size+1+1,0,none⟩=some (.bool false):=(hb.cell (p:=⟨w.heap.size+1+1,0,none⟩) zcr).trans cr0
  replace cr1:v1.cell? ⟨w.heap.size+1+1,1,none⟩=some (.int .i64 0):=(hb.cell (p:=⟨w.heap.size+1+1,1,none⟩) zcr).trans cr1
  replace cr2:v1.cell? ⟨w.heap.size+1+1,2,none⟩=some (.int .i64 0):=(hb.cell (p:=⟨w.heap.size+1+1,2,none⟩) zcr).trans cr2
  replace cr3:v1.cell? ⟨w.heap.size+1+1,3,none⟩=some (.int .i64 0):=(hb.cell (p:=⟨w.heap.size+1+1,3,none⟩) zcr).trans cr3
  replace cr4:v1.cell? ⟨w.heap.size+1+1,4,none⟩=some (.int .i64 0):=(hb.cell (p:=⟨w.heap.size+1+1,4,none⟩) zcr).trans cr4
  replace fcr0:v1.frozen? ⟨w.heap.size+1+1,0,none⟩=false:=(hb.frozen (p:=⟨w.heap.size+1+1,0,none⟩) zcr).trans fcr0
  replace fcr1:v1.frozen? ⟨w.heap.size+1+1,1,none⟩=false:=(hb.frozen (p:=⟨w.heap.size+1+1,1,none⟩) zcr).trans fcr1
  replace fcr2:v1.frozen? ⟨w.heap.size+1+1,2,none⟩=false:=(hb.frozen (p:=⟨w.heap.size+1+1,2,none⟩) zcr).trans fcr2
  replace fcr3:v1.frozen? ⟨w.heap.size+1+1,3,none⟩=false:=(hb.frozen (p:=⟨w.heap.size+1+1,3,none⟩) zcr).trans fcr3
  replace fcr4:v1.frozen? ⟨w.heap.size+1+1,4,none⟩=false:=(hb.frozen (p:=⟨w.heap.size+1+1,4,none⟩) zcr).trans fcr4
  replace zcr:w.heap.size+1+1 < v1.heap.size:=Kbq zcr hb.size
  replace HB:=Q00 (HB.out.trans (hb.mono HB.out.size))
  clear hb
  have e0:=(HB.out.cell (p:=⟨b,off+k * 5,none⟩) hbl).trans hcx.1
  have e1:=(HB.out.cell (p:=⟨b,off+k * 5+1,none⟩) hbl).trans hcx.2.1
  have e2:=(HB.out.cell (p:=⟨b,off+k * 5+2,none⟩) hbl).trans hcx.2.2.1
  have e3:=(HB.out.cell (p:=⟨b,off+k * 5+3,none⟩) hbl).trans hcx.2.2.2.1
  have e4:=(HB.out.cell (p:=⟨b,off+k * 5+4,none⟩) hbl).trans hcx.2.2.2.2
  clear hat hcx
  go_wp2
  refine bodyPost_ret (v:=.tuple #[slot s,.bool true]) (by simp [results,Try.results61,go_sem,cr0,cr1,cr2,cr3,cr4]) rfl ⟨by rw [HM.out,HE.out],Q1q (s:=s) HB.out (by omega)⟩
theorem Q74 (b off c:Nat) (l:List Sl) (a p:Int) (w:World) (hn:0 < l.length) (hl:l.length≤1048576) (hf:Q0c a p=true) (hbl:b < w.heap.size) (hc:∀i,i < l.length→∀j,j < Q0e.k→w.cell? ⟨b,off+i * Q0e.k+j,none⟩=(Q0e.cs (l.getD i Q0e.d))[j]?):
  Calls Try.prog 63 #[tab (.slice (some ⟨b,off,none⟩) l.length c),Q2S a p] w fun e w'=> e=.returned (.tuple #[slot (Q5B l a p),.bool (Q0m l a p).2])∧Below w.heap.size w w':=by
 have HC:=Q00 hc
 clear hc
 obtain ⟨W0,hW0⟩:∃W,(((w.alloc (.cells #[.slice (some ⟨b,off,none⟩) l.length c] 63)).alloc (.cells #[.int .i64 a,.int .i64 p] 29)).alloc (.cells #[.bool false,.int .i64 0,.int .i64 0,.int .i64 0,.int .i64 0] 102))=W:=⟨_,rfl⟩
 have hb_W0:Below w.heap.size w W0:=by rw [←hW0];exact ((((Below.refl _ _).alloc (Kaq _) _).alloc (by simp <;> omega) _).alloc (by simp <;> omega) _)
 have HB:=Q00 hb_W0
 clear hb_W0
 have zct:w.heap.size < W0.heap.size:=by rw [←hW0];simp <;> omega
 have ct0:W0.cell? ⟨w.heap.size,0,none⟩=some (.slice (some ⟨b,off,none⟩) l.length c):=by rw [←hW0];simp [go_sem]
 have zcf:w.heap.size+1 < W0.heap.size:=by rw [←hW0];simp <;> omega
 have cf0:W0.cell? ⟨w.heap.size+1,0,none⟩=some (.int .i64 a):=by rw [←hW0];simp [go_sem]
 have cf1:W0.cell? ⟨w.heap.size+1,1,none⟩=some (.int .i64 p):=by rw [←hW0];simp [go_sem]
 have zcr:w.heap.size+1+1 < W0.heap.size:=by rw [←hW0];simp
 have cr0:W0.cell? ⟨w.heap.size+1+1,0,none⟩=some (.bool false):=by rw [←hW0];simp [go_sem]
 have cr1:W0.cell? ⟨w.heap.size+1+1,1,none⟩=some (.int .i64 0):=by rw [←hW0];simp [go_sem]
 have cr2:W0.cell? ⟨w.heap.size+1+1,2,none⟩=some (.int .i64 0):=by rw [←hW0];simp [go_sem]
 have cr3:W0.cell? ⟨w.heap.size+1+1,3,none⟩=some (.int .i64 0):=by rw [←hW0];simp [go_sem]
 have cr4:W0.cell? ⟨w.heap.size+1+1,4,none⟩=some (.int .i64 0):=by rw [←hW0];simp [go_sem]
 have fcr0:W0.frozen? ⟨w.heap.size+1+1,0,none⟩=false:=by rw [←hW0];simp [go_sem]
 have fcr1:W0.frozen? ⟨w.heap.size+1+1,1,none⟩=false:=by rw [←hW0];simp [go_sem]
 have fcr2:W0.frozen? ⟨w.heap.size+1+1,2,none⟩=false:=by rw [←hW0];simp [go_sem]
 have fcr3:W0.frozen? ⟨w.heap.size+1+1,3,none⟩=false:=by rw [←hW0];simp [go_sem]
 have fcr4:W0.frozen? ⟨w.heap.size+1+1,4,none⟩=false:=by rw [←hW0];simp [go_sem]
 have hat:=Q1C b off c l a p W0 hn hl hf (Kbq hbl HB.out.size) (fun i hi j hj=> (HB.out.cell (p:=⟨b,off+i * Q0e.k+j,none⟩) hbl).trans (HC.out i hi j hj))
 rcases Q0C l hn a p with hE|⟨k,hk,⟨hE,_⟩|⟨hE,_⟩⟩
 ·skip
  have HM:=Q00 (Q4z (l:=l) (a:=a) (p:=p) (by rw [hE]))
  have HE:=Q00 hE
  rw [hE] at hat
  clear hE
  go_enter Try.func63,Try.ntmps63
  go_wp2_with fail
  refine (hat).mono ?_
  rintro e v1 ⟨rfl,hb⟩
  replace ct0:v1.cell? ⟨w.heap.size,0,none⟩=some (.slice (some ⟨b,off,none⟩) l.length c):=(hb.cell (p:=⟨w.heap.size,0,none⟩) zct).trans ct0
  replace zct:w.heap.size < v1.heap.size:=Kbq zct hb.size
  replace cf0:v1.cell? ⟨w.heap.size+1,0,none⟩=some (.int .i64 a):=(hb.cell (p:=⟨w.heap.size+1,0,none⟩) zcf).trans cf0
  replace cf1:v1.cell? ⟨w.heap.size+1,1,none⟩=some (.int .i64 p):=(hb.cell (p:=⟨w.heap.size+1,1,none⟩) zcf).trans cf1
  replace zcf:w.heap.size+1 < v1.heap.size:=Kbq zcf hb.size
  replace cr0:v1.cell? ⟨w.heap.size+1+1,0,none⟩=some (.bool false):=(hb.cell (p:=⟨w.heap.size+1+1,0,none⟩) zcr).trans cr0
  replace cr1:v1.cell? ⟨w.heap.size+1+1,1,none⟩=some (.int .i64 0):=(hb.cell (p:=⟨w.heap.size+1+1,1,none⟩) zcr).trans cr1
  replace cr2:v1.cell? ⟨w.heap.size+1+1,2,none⟩=some (.int .i64 0):=(hb.cell (p:=⟨w.heap.size+1+1,2,none⟩) zcr).trans cr2
  replace cr3:v1.cell? ⟨w.heap.size+1+1,3,none⟩=some (.int .i64 0):=(hb.cell (p:=⟨w.heap.size+1+1,3,none⟩) zcr).trans cr3
  replace cr4:v1.cell? ⟨w.heap.size+1+1,4,none⟩=some (.int .i64 0):=(hb.cell (p:=⟨w.heap.size+1+1,4,none⟩) zcr).trans cr4
  replace fcr0:v1.frozen? ⟨w.heap.size+1+1,0,none⟩=false:=(hb.frozen (p:=⟨w.heap.size+1+1,0,none⟩) zcr).trans fcr0
  replace fcr1:v1.frozen? ⟨w.heap.size+1+1,1,none⟩=false:=(hb.frozen (p:=⟨w.heap.size+1+1,1,none⟩) zcr).trans fcr1
  replace fcr2:v1.frozen? ⟨w.heap.size+1+1,2,none⟩=false:=(hb.frozen (p:=⟨w.heap.size+1+1,2,none⟩) zcr).trans fcr2
  replace fcr3:v1.frozen? ⟨w.heap.size+1+1,3,none⟩=false:=(hb.frozen (p:=⟨w.heap.size+1+1,3,none⟩) zcr).trans fcr3
  replace fcr4:v1.frozen? ⟨w.heap.size+1+1,4,none⟩=false:=(hb.frozen (p:=⟨w.heap.size+1+1,4,none⟩) zcr).trans fcr4
  replace zcr:w.heap.size+1+1 < v1.heap.size:=Kbq zcr hb.size
  replace HB:=Q00 (HB.out.trans (hb.mono HB.out.size))
  clear hb
  clear hat
  go_wp2
  refine bodyPost_ret (v:=.tuple #[slot sl0,.bool false]) (by simp [results,Try.results63,go_sem,cr0,cr1,cr2,cr3,cr4]) rfl ⟨by rw [HM.out,HE.out],Q1q (s:=sl0) HB.out (by omega)⟩
 ·skip
  have HM:=Q00 (Q4z (l:=l) (a:=a) (p:=p) (by rw [hE]))
  have HE:=Q00 hE
  rw [hE] at hat
  clear hE
  go_enter Try.func63,Try.ntmps63
  go_wp2_with fail
  refine (hat).mono ?_
  rintro e v1 ⟨rfl,hb⟩
  replace ct0:v1.cell? ⟨w.heap.size,0,none⟩=some (.slice (some ⟨b,off,none⟩) l.length c):=(hb.cell (p:=⟨w.heap.size,0,none⟩) zct).trans ct0
  replace zct:w.heap.size < v1.heap.size:=Kbq zct hb.size
  replace cf0:v1.cell? ⟨w.heap.size+1,0,none⟩=some (.int .i64 a):=(hb.cell (p:=⟨w.heap.size+1,0,none⟩) zcf).trans cf0
  replace cf1:v1.cell? ⟨w.heap.size+1,1,none⟩=some (.int .i64 p):=(hb.cell (p:=⟨w.heap.size+1,1,none⟩) zcf).trans cf1
  replace zcf:w.heap.size+1 < v1.heap.size:=Kbq zcf hb.size
  replace cr0:v1.cell? ⟨w.heap.size+1+1,0,none⟩=some (.bool false):=(hb.cell (p:=⟨w.heap.size+1+1,0,none⟩) zcr).trans cr0
  replace cr1:v1.cell? ⟨w.heap.size+1+1,1,none⟩=some (.int .i64 0):=(hb.cell (p:=⟨w.heap.size+1+1,1,none⟩) zcr).trans cr1
  replace cr2:v1.cell? ⟨w.heap.size+1+1,2,none⟩=some (.int .i64 0):=(hb.cell (p:=⟨w.heap.size+1+1,2,none⟩) zcr).trans cr2
  replace cr3:v1.cell? ⟨w.heap.size+1+1,3,none⟩=some (.int .i64 0):=(hb.cell (p:=⟨w.heap.size+1+1,3,none⟩) zcr).trans cr3
  replace cr4:v1.cell? ⟨w.heap.size+1+1,4,none⟩=some (.int .i64 0):=(hb.cell (p:=⟨w.heap.size+1+1,4,none⟩) zcr).trans cr4
  replace fcr0:v1.frozen? ⟨w.heap.size+1+1,0,none⟩=false:=(hb.frozen (p:=⟨w.heap.size+1+1,0,none⟩) zcr).trans fcr0
  replace fcr1:v1.frozen? ⟨w.heap.size+1+1,1,none⟩=false:=(hb.frozen (p:=⟨w.heap.size+1+1,1,none⟩) zcr).trans fcr1
  replace fcr2:v1.frozen? ⟨w.heap.size+1+1,2,none⟩=false:=(hb.frozen (p:=⟨w.heap.size+1+1,2,none⟩) zcr).trans fcr2
  replace fcr3:v1.frozen? ⟨w.heap.size+1+1,3,none⟩=false:=(hb.frozen (p:=⟨w.heap.size+1+1,3,none⟩) zcr).trans fcr3
  replace fcr4:v1.frozen? ⟨w.heap.size+1+1,4,none⟩=false:=(hb.frozen (p:=⟨w.heap.size+1+1,4,none⟩) zcr).trans fcr4
  replace zcr:w.heap.size+1+1 < v1.heap.size:=Kbq zcr hb.size
  replace HB:=Q00 (HB.out.trans (hb.mono HB.out.size))
  clear hb
  clear hat
  go_wp2
  refine bodyPost_ret (v:=.tuple #[slot sl0,.bool false]) (by simp [results,Try.results63,go_sem,cr0,cr1,cr2,cr3,cr4]) rfl ⟨by rw [HM.out,HE.out],Q1q (s:=sl0) HB.out (by omega)⟩
 ·skip
  have HM:=Q00 (Q5y hE)
  have HE:=Q00 hE
  rw [hE] at hat
  clear hE
  have hcx:=RdL.slot (C:=w.heap.size) HC.out k hk
  obtain ⟨s,hxy⟩:∃s,l.getD k sl0=s:=⟨_,rfl⟩
  rw [hxy] at hcx HM
  clear hxy
  have hk':(k:Int) < (l.length:Int):=by omega
  go_enter Try.func63,Try.ntmps63
  go_wp2_with fail
  refine (hat).mono ?_
  rintro e v1 ⟨rfl,hb⟩
  replace ct0:v1.cell? ⟨w.heap.size,0,none⟩=some (.slice (some ⟨b,off,none⟩) l.length c):=(hb.cell (p:=⟨w.heap.size,0,none⟩) zct).trans ct0
  replace zct:w.heap.size < v1.heap.size:=Kbq zct hb.size
  replace cf0:v1.cell? ⟨w.heap.size+1,0,none⟩=some (.int .i64 a):=(hb.cell (p:=⟨w.heap.size+1,0,none⟩) zcf).trans cf0
  replace cf1:v1.cell? ⟨w.heap.size+1,1,none⟩=some (.int .i64 p):=(hb.cell (p:=⟨w.heap.size+1,1,none⟩) zcf).trans cf1
  replace zcf:w.heap.size+1 < v1.heap.size:=Kbq zcf hb.size
  replace cr0:v1.cell? ⟨w.heap.size+1+1,0,none⟩=some (.bool false):=(hb.cell (p:=⟨w.heap.size+1+1,0,none⟩) zcr).trans cr0
  replace cr1:v1.cell? ⟨w.heap.size+1+1,1,none⟩=some (.int .i64 0):=(hb.cell (p:=⟨w.heap.size+1+1,1,none⟩) zcr).trans cr1
  replace cr2:v1.cell? ⟨w.heap.size+1+1,2,none⟩=some (.int .i64 0):=(hb.cell (p:=⟨w.heap.size+1+1,2,none⟩) zcr).trans cr2
  replace cr3:v1.cell? ⟨w.heap.size+1+1,3,none⟩=some (.int .i64 0):=(hb.cell (p:=⟨w.heap.size+1+1,3,none⟩) zcr).trans cr3
  replace cr4:v1.cell? ⟨w.heap.size+1+1,4,none⟩=some (.int .i64 0):=(hb.cell (p:=⟨w.heap.size+1+1,4,none⟩) zcr).trans cr4
  replace fcr0:v1.frozen? ⟨w.heap.size+1+1,0,none⟩=false:=(hb.frozen (p:=⟨w.heap.size+1+1,0,none⟩) zcr).trans fcr0
  replace fcr1:v1.frozen? ⟨w.heap.size+1+1,1,none⟩=false:=(hb.frozen (p:=⟨w.heap.size+1+1,1,none⟩) zcr).trans fcr1
  replace fcr2:v1.frozen? ⟨w.heap.size+1+1,2,none⟩=false:=(hb.frozen (p:=⟨w.heap.size+1+1,2,none⟩) zcr).trans fcr2
  replace fcr3:v1.frozen? ⟨w.heap.size+1+1,3,none⟩=false:=(hb.frozen (p:=⟨w.heap.size+1+1,3,none⟩) zcr).trans fcr3
  replace fcr4:v1.frozen? ⟨w.heap.size+1+1,4,none⟩=false:=(hb.frozen (p:=⟨w.heap.size+1+1,4,none⟩) zcr).trans fcr4
  replace zcr:w.heap.size+1+1 < v1.heap.size:=Kbq zcr hb.size
  replace HB:=Q00 (HB.out.trans (hb.mono HB.out.size))
  clear hb
  have e0:=(HB.out.cell (p:=⟨b,off+k * 5,none⟩) hbl).trans hcx.1
  have e1:=(HB.out.cell (p:=⟨b,off+k * 5+1,none⟩) hbl).trans hcx.2.1
  have e2:=(HB.out.cell (p:=⟨b,off+k * 5+2,none⟩) hbl).trans hcx.2.2.1
  have e3:=(HB.out.cell (p:=⟨b,off+k * 5+3,none⟩) hbl).trans hcx.2.2.2.1
  have e4:=(HB.out.cell (p:=⟨b,off+k * 5+4,none⟩) hbl).trans hcx.2.2.2.2
  clear hat hcx
  go_wp2
  refine bodyPost_ret (v:=.tuple #[slot s,.bool true]) (by simp [results,Try.results63,go_sem,cr0,cr1,cr2,cr3,cr4]) rfl ⟨by rw [HM.out,HE.out],Q1q (s:=s) HB.out (by omega)⟩
theorem Q2i (W:World) (B j:Nat) (v:Value):Stp B (B+1) W (W.setCell ⟨B,j,none⟩ v):=by
 have h:=(Below.refl B W).setCell (p:=⟨B,j,none⟩) (Kaq _) v
 exact ⟨h.os,h.tape,h.output,h.size,fun k hk hn=> Below.heap_setCell W ⟨B,j,none⟩ v k (by simp;omega)⟩
theorem Q8A:AppOk Q0e 23 84:=⟨Try.underlying23,⟨_,_,Q3f,rfl,by decide⟩,by decide,fun a u hu=> by
 simp [Q0e] at hu;rcases hu with rfl|rfl|rfl|rfl|rfl <;> rfl⟩
theorem Stp.cell {lo hi b j:Nat} {w w':World} {u:Value} (s:Stp lo hi w w') (h:w.cell? ⟨b,j,none⟩=some u) (hb:b < w.heap.size) (hd:b < lo∨hi≤b):w'.cell? ⟨b,j,none⟩=some u:=by
 have:=s.block b hb hd
 simp only [World.cell?,this] at h ⊢;exact h
theorem Stp.frozen {lo hi b j:Nat} {w w':World} (s:Stp lo hi w w') (h:w.frozen? ⟨b,j,none⟩=false) (hb:b < w.heap.size) (hd:b < lo∨hi≤b):w'.frozen? ⟨b,j,none⟩=false:=by
 have:=s.block b hb hd
 simp only [World.frozen?,this] at h ⊢;exact h
theorem Q1z (W:World) (B k:Nat) (s:Sl):Stp B (B+1) W (((((W.setCell ⟨B,k * 5,none⟩ (.bool s.u)).setCell ⟨B,k * 5+1,none⟩ (.int .i64 s.a)).setCell ⟨B,k * 5+2,none⟩ (.int .i64 s.p)).setCell ⟨B,k * 5+3,none⟩ (.int .i64 s.v)).setCell ⟨B,k * 5+4,none⟩ (.int .i64 s.t)):=
 ((((Q2i W B _ _).trans (Q2i _ B _ _)).trans (Q2i _ B _ _)).trans (Q2i _ B _ _)).trans (Q2i _ B _ _)
theorem Q27 (b off c:Nat) (l:List Sl) (w:World) (hbl:b < w.heap.size) (hc:∀i,i < l.length→∀j,j < Q0e.k→w.cell? ⟨b,off+i * Q0e.k+j,none⟩=(Q0e.cs (l.getD i Q0e.d))[j]?) (hl:l.length≤1048576):
  Calls Try.prog 94 #[tab (.slice (some ⟨b,off,none⟩) l.length c)] w fun e w'=> ∃o' c',e=.returned (tab (.slice o' l.length c'))∧Q8v w' w.heap.size (.slice o' l.length c') l∧Below w.heap.size w w':=by
 have HC:=Q00 hc
 clear hc
 obtain ⟨W0,hW0⟩:∃W,((w.alloc (.cells #[.slice (some ⟨b,off,none⟩) l.length c] 25)).alloc (.cells #[.slice none 0 0] 25))=W:=⟨_,rfl⟩
 have hb_W0:Below w.heap.size w W0:=by rw [←hW0];exact (((Below.refl _ _).alloc (Kaq _) _).alloc (by simp <;> omega) _)
 have HB:=Q00 hb_W0
 clear hb_W0
 have zct:w.heap.size < W0.heap.size:=by rw [←hW0];simp <;> omega
 have ct0:W0.cell? ⟨w.heap.size,0,none⟩=some (.slice (some ⟨b,off,none⟩) l.length c):=by rw [←hW0];simp [go_sem]
 have zcr:w.heap.size+1 < W0.heap.size:=by rw [←hW0];simp
 have cr0:W0.cell? ⟨w.heap.size+1,0,none⟩=some (.slice none 0 0):=by rw [←hW0];simp [go_sem]
 have fcr0:W0.frozen? ⟨w.heap.size+1,0,none⟩=false:=by rw [←hW0];simp [go_sem]
 have HZ:=Q00 zcr
 have hw00:=HB.out.size
 obtain ⟨W1,hW1⟩:∃W,W0.alloc (.cells #[] 84)=W:=⟨_,rfl⟩
 have F1:Hid (ownL Q0e 84 W1 W0.heap.size (.slice (some ⟨W0.heap.size,0,none⟩) 0 0) []):=by rw [←hW1];exact Q6f (L:=Q0e) W0 _
 have hb_W1:Below W0.heap.size W0 W1:=by rw [←hW1];exact (Below.refl _ _).alloc (Kaq _) _
 replace ct0:W1.cell? ⟨w.heap.size,0,none⟩=some (.slice (some ⟨b,off,none⟩) l.length c):=(hb_W1.cell (p:=⟨w.heap.size,0,none⟩) zct).trans ct0
 replace zct:w.heap.size < W1.heap.size:=Kbq zct hb_W1.size
 replace cr0:W1.cell? ⟨w.heap.size+1,0,none⟩=some (.slice none 0 0):=(hb_W1.cell (p:=⟨w.heap.size+1,0,none⟩) zcr).trans cr0
 replace fcr0:W1.frozen? ⟨w.heap.size+1,0,none⟩=false:=(hb_W1.frozen (p:=⟨w.heap.size+1,0,none⟩) zcr).trans fcr0
 replace zcr:w.heap.size+1 < W1.heap.size:=Kbq zcr hb_W1.size
 replace HB:=Q00 (HB.out.trans (hb_W1.mono HB.out.size))
 clear hb_W1
 have hsz1:W0.heap.size≤W1.heap.size:=by rw [←hW1];simp
 have rdl:Hid (RdL Q0e w.heap.size W1 (some ⟨b,off,none⟩) l):=.inr ⟨b,off,rfl,hbl,fun i hi j hj=> (HB.out.cell (p:=⟨b,off+i * Q0e.k+j,none⟩) hbl).trans (HC.out i hi j hj)⟩
 go_enter Try.func94,Try.ntmps94
 go_wp2_with (at_builtin;refine Q1O Q8A rfl _ _ rfl W0.heap.size _ [] rfl F1.out (some ⟨b,off,none⟩) c w.heap.size l l.length rfl rfl (fun h=> by cases h) rdl.out ?c1 ?c2 ?_)
 case c1=> simp;omega
 case c2=> exact hsz1
 intro v2 w2 hv2 hg2 _
 (try rw [List.nil_append] at hv2)
 have hb:Below W0.heap.size W1 w2:=(Below.refl _ _).grown hg2 hsz1 (fun q h=> (F1.out.lt q h).1)
 have HO:=Q00 hv2
 obtain ⟨o2,c2,hve,_⟩:=ownL.open (L:=Q0e) hv2
 subst hve
 have cr02:w2.cell? ⟨w.heap.size+1,0,none⟩=some (.slice none 0 0):=(hb.cell (p:=⟨w.heap.size+1,0,none⟩) HZ.out).trans cr0
 have fcr02:w2.frozen? ⟨w.heap.size+1,0,none⟩=false:=(hb.frozen (p:=⟨w.heap.size+1,0,none⟩) HZ.out).trans fcr0
 have HB2:=Q00 (HB.out.trans (hb.mono hw00))
 clear hv2 hg2 hb F1 cr0 fcr0
 go_wp2
 refine bodyPost_ret (v:=tab (.slice o2 l.length c2)) (by simp [results,Try.results94,go_sem,cr02]) rfl ⟨_,_,rfl, ?_, ?_⟩
 ·exact Q0x (ownsRow_setCell_below HO.out (show w.heap.size+1 < W0.heap.size from HZ.out) _) hw00
 ·exact HB2.out.setCell (p:=⟨w.heap.size+1,0,none⟩) (by simp) _
theorem Q5t {l:List Sl} {a p v t:Int} (h:(Q0m l a p).1 < 0):Q11 l a p v t=l:=by unfold Q11;rw [if_neg (by omega)]
theorem Q3h {l:List Sl} {a p v t:Int} {k:Nat} (h:(Q0m l a p).1=(k:Int)):Q11 l a p v t=l.set k ⟨true,a,p,v,t⟩:=by unfold Q11;rw [if_pos (by omega),h];simp
theorem Q4f (l:List Sl) (hn:0 < l.length) (a p:Int):(Q0m l a p).1= -1∨∃k,k < l.length∧(Q0m l a p).1=(k:Int):=by
 rcases Q0C l hn a p with e|⟨k,hk,⟨e,_⟩|⟨e,_⟩⟩
 ·exact .inl (by rw [e])
 ·exact .inr ⟨k,hk,by rw [e]⟩
 ·exact .inr ⟨k,hk,by rw [e]⟩
theorem Q1P (b off c:Nat) (l:List Sl) (a p v t:Int) (w:World) (hn:0 < l.length) (hl:l.length≤1048576) (hf:Q0c a p=true) (hbl:b < w.heap.size) (hc:∀i,i < l.length→∀j,j < Q0e.k→w.cell? ⟨b,off+i * Q0e.k+j,none⟩=(Q0e.cs (l.getD i Q0e.d))[j]?):
  Calls Try.prog 97 #[tab (.slice (some ⟨b,off,none⟩) l.length c),Q2S a p,.int .i64 v,.int .i64 t] w fun e w'=> ∃b' off' c',e=.returned (.tuple #[tab (.slice (some ⟨b',off',none⟩) l.length c'),.bool (decide (0≤(Q0m l a p).1))])∧b' < w'.heap.size∧(∀i,i < (Q11 l a p v t).length→∀j,j < Q0e.k→w'.cell? ⟨b',off'+i * Q0e.k+j,none⟩=(Q0e.cs ((Q11 l a p v t).getD i Q0e.d))[j]?)∧Below w.heap.size w w'∧(b'=b∨w.heap.size≤b'):=by
 have HC:=Q00 hc
 clear hc
 obtain ⟨W0,hW0⟩:∃W,(((w.alloc (.cells #[.slice (some ⟨b,off,none⟩) l.length c] 25)).alloc (.cells #[.int .i64 a,.int .i64 p] 29)).alloc (.cells #[.slice none 0 0] 25))=W:=⟨_,rfl⟩
 have hb_W0:Below w.heap.size w W0:=by rw [←hW0];exact ((((Below.refl _ _).alloc (Kaq _) _).alloc (by simp <;> omega) _).alloc (by simp <;> omega) _)
 have HB:=Q00 hb_W0
 clear hb_W0
 have zct:w.heap.size < W0.heap.size:=by rw [←hW0];simp <;> omega
 have ct0:W0.cell? ⟨w.heap.size,0,none⟩=some (.slice (some ⟨b,off,none⟩) l.length c):=by rw [←hW0];simp [go_sem]
 have zcf:w.heap.size+1 < W0.heap.size:=by rw [←hW0];simp <;> omega
 have cf0:W0.cell? ⟨w.heap.size+1,0,none⟩=some (.int .i64 a):=by rw [←hW0];simp [go_sem]
 have cf1:W0.cell? ⟨w.heap.size+1,1,none⟩=some (.int .i64 p):=by rw [←hW0];simp [go_sem]
 have zcr:w.heap.size+1+1 < W0.heap.size:=by rw [←hW0];simp
 have cr0:W0.cell? ⟨w.heap.size+1+1,0,none⟩=some (.slice none 0 0):=by rw [←hW0];simp [go_sem]
 have fcr0:W0.frozen? ⟨w.heap.size+1+1,0,none⟩=false:=by rw [←hW0];simp [go_sem]
 have hat:=Q3g (some ⟨b,off,none⟩) c l a p W0 (.inr ⟨b,off,rfl,Kbq hbl HB.out.size,(fun i hi j hj=> (HB.out.cell (p:=⟨b,off+i * Q0e.k+j,none⟩) hbl).trans (HC.out i hi j hj))⟩) hn hl hf
 obtain ⟨E,hE⟩:∃E,Q0m l a p=E:=⟨_,rfl⟩
 have HZ:=Q00 zcr
 have hw00:=HB.out.size
 rcases Q4f l hn a p with h1|⟨k,hk,h1⟩
 ·skip
  have HP:=Q00 (Q5t (l:=l) (a:=a) (p:=p) (v:=v) (t:=t) (by rw [h1];decide))
  have HD:=Q00 (show decide (0≤(Q0m l a p).1)=false by rw [h1];rfl)
  rw [h1] at hat
  generalize (Q0m l a p).2=E2 at hat
  clear hE
  go_enter Try.func97,Try.ntmps97
  go_wp2_with fail
  refine (hat).mono ?_
  rintro e v1 ⟨rfl,hb⟩
  replace ct0:v1.cell? ⟨w.heap.size,0,none⟩=some (.slice (some ⟨b,off,none⟩) l.length c):=(hb.cell (p:=⟨w.heap.size,0,none⟩) zct).trans ct0
  replace zct:w.heap.size < v1.heap.size:=Kbq zct hb.size
  replace cf0:v1.cell? ⟨w.heap.size+1,0,none⟩=some (.int .i64 a):=(hb.cell (p:=⟨w.heap.size+1,0,none⟩) zcf).trans cf0
  replace cf1:v1.cell? ⟨w.heap.size+1,1,none⟩=some (.int .i64 p):=(hb.cell (p:=⟨w.heap.size+1,1,none⟩) zcf).trans cf1
  replace zcf:w.heap.size+1 < v1.heap.size:=Kbq zcf hb.size
  replace cr0:v1.cell? ⟨w.heap.size+1+1,0,none⟩=some (.slice none 0 0):=(hb.cell (p:=⟨w.heap.size+1+1,0,none⟩) zcr).trans cr0
  replace fcr0:v1.frozen? ⟨w.heap.size+1+1,0,none⟩=false:=(hb.frozen (p:=⟨w.heap.size+1+1,0,none⟩) zcr).trans fcr0
  replace zcr:w.heap.size+1+1 < v1.heap.size:=Kbq zcr hb.size
  replace HB:=Q00 (HB.out.trans (hb.mono HB.out.size))
  clear hb
  clear hat
  go_wp2
  refine bodyPost_ret (v:=.tuple #[tab (.slice (some ⟨b,off,none⟩) l.length c),.bool false]) (by simp [results,Try.results97,go_sem,cr0]) rfl ⟨b,off,c,by rw [HD.out], ?_, ?_, ?_,.inl rfl⟩
  ·have:=HB.out.size;simp;omega
  ·rw [HP.out]
   intro i hi j hj
   have hB2:=HB.out.setCell (p:=⟨w.heap.size+1+1,0,none⟩) (by simp <;> omega) (.slice (some ⟨b,off,none⟩) l.length c)
   exact (hB2.cell (p:=⟨b,off+i * Q0e.k+j,none⟩) hbl).trans (HC.out i hi j hj)
  ·exact HB.out.setCell (p:=⟨w.heap.size+1+1,0,none⟩) (by simp <;> omega) _
 ·skip
  have HP:=Q00 (Q3h (l:=l) (a:=a) (p:=p) (v:=v) (t:=t) h1)
  have HD:=Q00 (show decide (0≤(Q0m l a p).1)=true by rw [h1];simp)
  rw [h1] at hat
  generalize (Q0m l a p).2=E2 at hat
  clear hE h1
  have hk':(k:Int) < (l.length:Int):=by omega
  go_enter Try.func97,Try.ntmps97
  go_wp2_with fail
  refine (hat).mono ?_
  rintro e v1 ⟨rfl,hb⟩
  replace ct0:v1.cell? ⟨w.heap.size,0,none⟩=some (.slice (some ⟨b,off,none⟩) l.length c):=(hb.cell (p:=⟨w.heap.size,0,none⟩) zct).trans ct0
  replace zct:w.heap.size < v1.heap.size:=Kbq zct hb.size
  replace cf0:v1.cell? ⟨w.heap.size+1,0,none⟩=some (.int .i64 a):=(hb.cell (p:=⟨w.heap.size+1,0,none⟩) zcf).trans cf0
  replace cf1:v1.cell? ⟨w.heap.size+1,1,none⟩=some (.int .i64 p):=(hb.cell (p:=⟨w.heap.size+1,1,none⟩) zcf).trans cf1
  replace zcf:w.heap.size+1 < v1.heap.size:=Kbq zcf hb.size
  replace cr0:v1.cell? ⟨w.heap.size+1+1,0,none⟩=some (.slice none 0 0):=(hb.cell (p:=⟨w.heap.size+1+1,0,none⟩) zcr).trans cr0
  replace fcr0:v1.frozen? ⟨w.heap.size+1+1,0,none⟩=false:=(hb.frozen (p:=⟨w.heap.size+1+1,0,none⟩) zcr).trans fcr0
  replace zcr:w.heap.size+1+1 < v1.heap.size:=Kbq zcr hb.size
  replace HB:=Q00 (HB.out.trans (hb.mono HB.out.size))
  clear hb
  go_wp2_with fail
  refine (Q27 b off c l v1 (Kbq hbl HB.out.size) (fun i hi j hj=> (HB.out.cell (p:=⟨b,off+i * Q0e.k+j,none⟩) hbl).trans (HC.out i hi j hj)) hl).mono ?_
  rintro e v2 ⟨o2,c2,rfl,hown,hb⟩
  have HV1:=Q00 zcr
  obtain ⟨g,c3,hve⟩:∃g c3,Value.slice o2 l.length c2=.slice (some ⟨g,0,none⟩) l.length c3:=by
   rcases hown.2 with ⟨_,h0⟩|⟨g,c3,_,h0,_⟩
   ·exact absurd h0 (by omega)
   ·exact ⟨g,c3,h0⟩
  injection hve with hv1 hv2 hv3
  subst hv1 hv3
  have HO:=Q00 hown
  clear hown
  replace ct0:v2.cell? ⟨w.heap.size,0,none⟩=some (.slice (some ⟨b,off,none⟩) l.length c):=(hb.cell (p:=⟨w.heap.size,0,none⟩) zct).trans ct0
  replace zct:w.heap.size < v2.heap.size:=Kbq zct hb.size
  replace cf0:v2.cell? ⟨w.heap.size+1,0,none⟩=some (.int .i64 a):=(hb.cell (p:=⟨w.heap.size+1,0,none⟩) zcf).trans cf0
  replace cf1:v2.cell? ⟨w.heap.size+1,1,none⟩=some (.int .i64 p):=(hb.cell (p:=⟨w.heap.size+1,1,none⟩) zcf).trans cf1
  replace zcf:w.heap.size+1 < v2.heap.size:=Kbq zcf hb.size
  replace cr0:v2.cell? ⟨w.heap.size+1+1,0,none⟩=some (.slice none 0 0):=(hb.cell (p:=⟨w.heap.size+1+1,0,none⟩) zcr).trans cr0
  replace fcr0:v2.frozen? ⟨w.heap.size+1+1,0,none⟩=false:=(hb.frozen (p:=⟨w.heap.size+1+1,0,none⟩) zcr).trans fcr0
  replace zcr:w.heap.size+1+1 < v2.heap.size:=Kbq zcr hb.size
  replace HB:=Q00 (HB.out.trans (hb.mono HB.out.size))
  clear hb
  have HOv:=HO
  obtain ⟨W2,hW2⟩:∃W,(v2.alloc (.cells #[.slice (some ⟨g,0,none⟩) l.length c2] 25))=W:=⟨_,rfl⟩
  have hb_W2:Below v2.heap.size v2 W2:=by rw [←hW2];exact ((Below.refl _ _).alloc (Kaq _) _)
  replace ct0:W2.cell? ⟨w.heap.size,0,none⟩=some (.slice (some ⟨b,off,none⟩) l.length c):=(hb_W2.cell (p:=⟨w.heap.size,0,none⟩) zct).trans ct0
  replace zct:w.heap.size < W2.heap.size:=Kbq zct hb_W2.size
  replace cf0:W2.cell? ⟨w.heap.size+1,0,none⟩=some (.int .i64 a):=(hb_W2.cell (p:=⟨w.heap.size+1,0,none⟩) zcf).trans cf0
  replace cf1:W2.cell? ⟨w.heap.size+1,1,none⟩=some (.int .i64 p):=(hb_W2.cell (p:=⟨w.heap.size+1,1,none⟩) zcf).trans cf1
  replace zcf:w.heap.size+1 < W2.heap.size:=Kbq zcf hb_W2.size
  replace cr0:W2.cell? ⟨w.heap.size+1+1,0,none⟩=some (.slice none 0 0):=(hb_W2.cell (p:=⟨w.heap.size+1+1,0,none⟩) zcr).trans cr0
  replace fcr0:W2.frozen? ⟨w.heap.size+1+1,0,none⟩=false:=(hb_W2.frozen (p:=⟨w.heap.size+1+1,0,none⟩) zcr).trans fcr0
  replace zcr:w.heap.size+1+1 < W2.heap.size:=Kbq zcr hb_W2.size
  replace HO:=Q00 (Q0a HO.out hb_W2)
  replace HB:=Q00 (HB.out.trans (hb_W2.mono HB.out.size))
  clear hb_W2
  have zco:v2.heap.size < W2.heap.size:=by rw [←hW2];simp
  have co0:W2.cell? ⟨v2.heap.size,0,none⟩=some (.slice (some ⟨g,0,none⟩) l.length c2):=by rw [←hW2];simp [go_sem]
  have hgb:=(HO.out.lt g rfl)
  have ho:W2.ownsRow v1.heap.size 84 5 (.slice (some ⟨g,0,none⟩) l.length c2) l.length (l.flatMap Q0e.cs):=HO.out
  have hln:(l.flatMap Q0e.cs).length=l.length * 5:=by rw [Q0u];rfl
  obtain ⟨u0,hu0⟩:∃u,W2.cell? ⟨g,k * 5,none⟩=some u:=⟨_,(ho.cellAt (k * 5) (by omega)).trans (List.getElem?_eq_getElem (by omega))⟩
  have hf0:=ho.frozenAt (k * 5)
  obtain ⟨u1,hu1⟩:∃u,W2.cell? ⟨g,k * 5+1,none⟩=some u:=⟨_,(ho.cellAt (k * 5+1) (by omega)).trans (List.getElem?_eq_getElem (by omega))⟩
  have hf1:=ho.frozenAt (k * 5+1)
  obtain ⟨u2,hu2⟩:∃u,W2.cell? ⟨g,k * 5+2,none⟩=some u:=⟨_,(ho.cellAt (k * 5+2) (by omega)).trans (List.getElem?_eq_getElem (by omega))⟩
  have hf2:=ho.frozenAt (k * 5+2)
  obtain ⟨u3,hu3⟩:∃u,W2.cell? ⟨g,k * 5+3,none⟩=some u:=⟨_,(ho.cellAt (k * 5+3) (by omega)).trans (List.getElem?_eq_getElem (by omega))⟩
  have hf3:=ho.frozenAt (k * 5+3)
  obtain ⟨u4,hu4⟩:∃u,W2.cell? ⟨g,k * 5+4,none⟩=some u:=⟨_,(ho.cellAt (k * 5+4) (by omega)).trans (List.getElem?_eq_getElem (by omega))⟩
  have hf4:=ho.frozenAt (k * 5+4)
  have HS:=Q00 (Q1I (k:=k) ⟨true,a,p,v,t⟩ (Kaq g) ho (Below.refl g W2))
  have HSt:=Q00 (Q1z W2 g k ⟨true,a,p,v,t⟩)
  clear ho hln hat
  obtain ⟨W3,hW3⟩:∃W,((((W2.setCell ⟨g,k * 5,none⟩ (.bool true)).setCell ⟨g,k * 5+1,none⟩ (.int .i64 a)).setCell ⟨g,k * 5+2,none⟩ (.int .i64 p)).setCell ⟨g,k * 5+3,none⟩ (.int .i64 v)).setCell ⟨g,k * 5+4,none⟩ (.int .i64 t)=W:=⟨_,rfl⟩
  have HS3:Hid (W3.ownsRow v1.heap.size 84 5 (.slice (some ⟨g,0,none⟩) l.length c2) l.length ((l.set k ⟨true,a,p,v,t⟩).flatMap Q0e.cs)):=by rw [←hW3];exact HS.out.1
  have HSt3:Hid (Stp g (g+1) W2 W3):=by rw [←hW3];exact HSt.out
  have hgv:v1.heap.size≤g:=hgb.1
  have hzo:g+1≤v2.heap.size:=by have h:=(HOv.out.lt g rfl).2;omega
  have co3:=HSt3.out.cell co0 zco (.inr hzo)
  have cr3:=HSt3.out.cell cr0 zcr (.inl (show w.heap.size+1+1 < g from Kbq HV1.out hgv))
  have fcr3:=HSt3.out.frozen fcr0 zcr (.inl (show w.heap.size+1+1 < g from Kbq HV1.out hgv))
  have hB3:Hid (Below w.heap.size W2 W3):=HSt3.out.below (by have:=HV1.out;omega) (by have:=HV1.out;omega)
  have hwv:w.heap.size≤v1.heap.size:=by have:=HV1.out;omega
  clear cr0 fcr0 HS HSt
  go_wp2
  refine bodyPost_ret (v:=.tuple #[tab (.slice (some ⟨g,0,none⟩) l.length c2),.bool true]) (by simp [results,Try.results97,go_sem,cr3]) rfl ⟨g,0,c2,by rw [HD.out], ?_, ?_, ?_,.inr (by have h1:=(HS3.out.lt g rfl).1;have h2:=HV1.out;omega)⟩
  ·have h:=(HS3.out.lt g rfl).2;simpa using h
  ·rw [HP.out]
   have h:=ownsRow_setCell_below HS3.out (a:=⟨w.heap.size+1+1,0,none⟩) (show w.heap.size+1+1 < v1.heap.size from HV1.out) (.slice (some ⟨g,0,none⟩) l.length c2)
   exact Q0n h (by simp)
  ·exact (HB.out.trans hB3.out).setCell (p:=⟨w.heap.size+1+1,0,none⟩) (by simp <;> omega) _
theorem Q6M (v:Value) (m:Am) (w:World) (hR:RdA w.heap.size w v m) (hc0:0 < m.c.length) (ht0:0 < m.t.length) (hf:m.c.length+m.t.length≤1048576):
  Calls Try.prog 69 #[v] w fun e w'=> ∃v',e=.returned v'∧InA w.heap.size w'.heap.size w' v' m∧Below w.heap.size w w':=by
 obtain ⟨vc,vt,rfl,⟨oc,cc,rfl,rc⟩,⟨ot,ct,rfl,rt⟩⟩:=hR
 rcases rc with hrc|⟨bc,fc,rfl,hbc,hcc⟩
 ·rw [hrc] at hc0;simp at hc0
 rcases rt with hrt|⟨bt,ft,rfl,hbt,hct⟩
 ·rw [hrt] at ht0;simp at ht0
 have HC:=Q00 hcc
 have HT:=Q00 hct
 clear hcc hct
 obtain ⟨W0,hW0⟩:∃W,((w.alloc (.cells #[.int .i64 m.id,.int .i64 m.lim,.bool m.dr,.slice (some ⟨bc,fc,none⟩) m.c.length cc,.slice (some ⟨bt,ft,none⟩) m.t.length ct] 27)).alloc (.cells #[.int .i64 0,.int .i64 0,.bool false,.slice none 0 0,.slice none 0 0] 27))=W:=⟨_,rfl⟩
 have hb_W0:Below w.heap.size w W0:=by rw [←hW0];exact (((Below.refl _ _).alloc (Kaq _) _).alloc (by simp <;> omega) _)
 have HB:=Q00 hb_W0
 clear hb_W0
 have zz:w.heap.size < W0.heap.size:=by rw [←hW0];simp <;> omega
 have z0:W0.cell? ⟨w.heap.size,0,none⟩=some (.int .i64 m.id):=by rw [←hW0];simp [go_sem]
 have z1:W0.cell? ⟨w.heap.size,1,none⟩=some (.int .i64 m.lim):=by rw [←hW0];simp [go_sem]
 have z2:W0.cell? ⟨w.heap.size,2,none⟩=some (.bool m.dr):=by rw [←hW0];simp [go_sem]
 have z3:W0.cell? ⟨w.heap.size,3,none⟩=some (.slice (some ⟨bc,fc,none⟩) m.c.length cc):=by rw [←hW0];simp [go_sem]
 have z4:W0.cell? ⟨w.heap.size,4,none⟩=some (.slice (some ⟨bt,ft,none⟩) m.t.length ct):=by rw [←hW0];simp [go_sem]
 have fz0:W0.frozen? ⟨w.heap.size,0,none⟩=false:=by rw [←hW0];simp [go_sem]
 have fz1:W0.frozen? ⟨w.heap.size,1,none⟩=false:=by rw [←hW0];simp [go_sem]
 have fz2:W0.frozen? ⟨w.heap.size,2,none⟩=false:=by rw [←hW0];simp [go_sem]
 have fz3:W0.frozen? ⟨w.heap.size,3,none⟩=false:=by rw [←hW0];simp [go_sem]
 have fz4:W0.frozen? ⟨w.heap.size,4,none⟩=false:=by rw [←hW0];simp [go_sem]
 have zr:w.heap.size+1 < W0.heap.size:=by rw [←hW0];simp
 have r0:W0.cell? ⟨w.heap.size+1,0,none⟩=some (.int .i64 0):=by rw [←hW0];simp [go_sem]
 have r1:W0.cell? ⟨w.heap.size+1,1,none⟩=some (.int .i64 0):=by rw [←hW0];simp [go_sem]
 have r2:W0.cell? ⟨w.heap.size+1,2,none⟩=some (.bool false):=by rw [←hW0];simp [go_sem]
 have r3:W0.cell? ⟨w.heap.size+1,3,none⟩=some (.slice none 0 0):=by rw [←hW0];simp [go_sem]
 have r4:W0.cell? ⟨w.heap.size+1,4,none⟩=some (.slice none 0 0):=by rw [←hW0];simp [go_sem]
 have fr0:W0.frozen? ⟨w.heap.size+1,0,none⟩=false:=by rw [←hW0];simp [go_sem]
 have fr1:W0.frozen? ⟨w.heap.size+1,1,none⟩=false:=by rw [←hW0];simp [go_sem]
 have fr2:W0.frozen? ⟨w.heap.size+1,2,none⟩=false:=by rw [←hW0];simp [go_sem]
 have fr3:W0.frozen? ⟨w.heap.size+1,3,none⟩=false:=by rw [←hW0];simp [go_sem]
 have fr4:W0.frozen? ⟨w.heap.size+1,4,none⟩=false:=by rw [←hW0];simp [go_sem]
 have h1:=fun W (hb:Below w.heap.size w W)=> Q27 bc fc cc m.c W (Kbq hbc hb.size) (fun i hi j hj=> (hb.cell (p:=⟨bc,fc+i * Q0e.k+j,none⟩) hbc).trans (HC.out i hi j hj)) (by omega)
 have h2:=fun W (hb:Below w.heap.size w W)=> Q27 bt ft ct m.t W (Kbq hbt hb.size) (fun i hi j hj=> (hb.cell (p:=⟨bt,ft+i * Q0e.k+j,none⟩) hbt).trans (HT.out i hi j hj)) (by omega)
 have H1:=Q00 h1
 have H2:=Q00 h2
 clear h1 h2
 have hz0:=zr
 go_enter Try.func69,Try.ntmps69
 go_wp2_with fail
 refine (H1.out W0 HB.out).mono ?_
 rintro e v1 ⟨p1,c1,rfl,hown,hb⟩
 have HI:Hid (InS W0.heap.size v1.heap.size v1 (.slice p1 m.c.length c1) m.c):=InRow.of hown
 have hs1:=hb.size
 clear hown
 replace z0:v1.cell? ⟨w.heap.size,0,none⟩=some (.int .i64 m.id):=(hb.cell (p:=⟨w.heap.size,0,none⟩) zz).trans z0
 replace z1:v1.cell? ⟨w.heap.size,1,none⟩=some (.int .i64 m.lim):=(hb.cell (p:=⟨w.heap.size,1,none⟩) zz).trans z1
 replace z2:v1.cell? ⟨w.heap.size,2,none⟩=some (.bool m.dr):=(hb.cell (p:=⟨w.heap.size,2,none⟩) zz).trans z2
 replace z3:v1.cell? ⟨w.heap.size,3,none⟩=some (.slice (some ⟨bc,fc,none⟩) m.c.length cc):=(hb.cell (p:=⟨w.heap.size,3,none⟩) zz).trans z3
 replace z4:v1.cell? ⟨w.heap.size,4,none⟩=some (.slice (some ⟨bt,ft,none⟩) m.t.length ct):=(hb.cell (p:=⟨w.heap.size,4,none⟩) zz).trans z4
 replace fz0:v1.frozen? ⟨w.heap.size,0,none⟩=false:=(hb.frozen (p:=⟨w.heap.size,0,none⟩) zz).trans fz0
 replace fz1:v1.frozen? ⟨w.heap.size,1,none⟩=false:=(hb.frozen (p:=⟨w.heap.size,1,none⟩) zz).trans fz1
 replace fz2:v1.frozen? ⟨w.heap.size,2,none⟩=false:=(hb.frozen (p:=⟨w.heap.size,2,none⟩) zz).trans fz2
 replace fz3:v1.frozen? ⟨w.heap.size,3,none⟩=false:=(hb.frozen (p:=⟨w.heap.size,3,none⟩) zz).trans fz3
 replace fz4:v1.frozen? ⟨w.heap.size,4,none⟩=false:=(hb.frozen (p:=⟨w.heap.size,4,none⟩) zz).trans fz4
 replace zz:w.heap.size < v1.heap.size:=Kbq zz hb.size
 replace r0:v1.cell? ⟨w.heap.size+1,0,none⟩=some (.int .i64 0):=(hb.cell (p:=⟨w.heap.size+1,0,none⟩) zr).trans r0
 replace r1:v1.cell? ⟨w.heap.size+1,1,none⟩=some (.int .i64 0):=(hb.cell (p:=⟨w.heap.size+1,1,none⟩) zr).trans r1
 replace r2:v1.cell? ⟨w.heap.size+1,2,none⟩=some (.bool false):=(hb.cell (p:=⟨w.heap.size+1,2,none⟩) zr).trans r2
 replace r3:v1.cell? ⟨w.heap.size+1,3,none⟩=some (.slice none 0 0):=(hb.cell (p:=⟨w.heap.size+1,3,none⟩) zr).trans r3
 replace r4:v1.cell? ⟨w.heap.size+1,4,none⟩=some (.slice none 0 0):=(hb.cell (p:=⟨w.heap.size+1,4,none⟩) zr).trans r4
 replace fr0:v1.frozen? ⟨w.heap.size+1,0,none⟩=false:=(hb.frozen (p:=⟨w.heap.size+1,0,none⟩) zr).trans fr0
 replace fr1:v1.frozen? ⟨w.heap.size+1,1,none⟩=false:=(hb.frozen (p:=⟨w.heap.size+1,1,none⟩) zr).trans fr1
 replace fr2:v1.frozen? ⟨w.heap.size+1,2,none⟩=false:=(hb.frozen (p:=⟨w.heap.size+1,2,none⟩) zr).trans fr2
 replace fr3:v1.frozen? ⟨w.heap.size+1,3,none⟩=false:=(hb.frozen (p:=⟨w.heap.size+1,3,none⟩) zr).trans fr3
 replace fr4:v1.frozen? ⟨w.heap.size+1,4,none⟩=false:=(hb.frozen (p:=⟨w.heap.size+1,4,none⟩) zr).trans fr4
 replace zr:w.heap.size+1 < v1.heap.size:=Kbq zr hb.size
 replace HB:=Q00 (HB.out.trans (hb.mono HB.out.size))
 clear hb
 clear hW0
 go_wp2_with fail
 obtain ⟨W2,hW2⟩:∃W,(v1.setCell ⟨w.heap.size,3,none⟩ (.slice p1 m.c.length c1))=W:=⟨_,rfl⟩
 have hst:Stp (w.heap.size) (w.heap.size+1) v1 W2:=by rw [←hW2];exact Q0s v1 (w.heap.size) 3 _
 rw [hW2]
 have z0':W2.cell? ⟨w.heap.size,0,none⟩=some (.int .i64 m.id):=by rw [←hW2];simp [go_sem,z0,z1,z2,z3,z4]
 have fz0':W2.frozen? ⟨w.heap.size,0,none⟩=false:=by rw [←hW2];simp [go_sem,fz0,fz1,fz2,fz3,fz4]
 have z1':W2.cell? ⟨w.heap.size,1,none⟩=some (.int .i64 m.lim):=by rw [←hW2];simp [go_sem,z0,z1,z2,z3,z4]
 have fz1':W2.frozen? ⟨w.heap.size,1,none⟩=false:=by rw [←hW2];simp [go_sem,fz0,fz1,fz2,fz3,fz4]
 have z2':W2.cell? ⟨w.heap.size,2,none⟩=some (.bool m.dr):=by rw [←hW2];simp [go_sem,z0,z1,z2,z3,z4]
 have fz2':W2.frozen? ⟨w.heap.size,2,none⟩=false:=by rw [←hW2];simp [go_sem,fz0,fz1,fz2,fz3,fz4]
 have z3':W2.cell? ⟨w.heap.size,3,none⟩=some (.slice p1 m.c.length c1):=by rw [←hW2];simp [go_sem,z0,z1,z2,z3,z4]
 have fz3':W2.frozen? ⟨w.heap.size,3,none⟩=false:=by rw [←hW2];simp [go_sem,fz0,fz1,fz2,fz3,fz4]
 have z4':W2.cell? ⟨w.heap.size,4,none⟩=some (.slice (some ⟨bt,ft,none⟩) m.t.length ct):=by rw [←hW2];simp [go_sem,z0,z1,z2,z3,z4]
 have fz4':W2.frozen? ⟨w.heap.size,4,none⟩=false:=by rw [←hW2];simp [go_sem,fz0,fz1,fz2,fz3,fz4]
 replace z0:=z0'
 replace fz0:=fz0'
 replace z1:=z1'
 replace fz1:=fz1'
 replace z2:=z2'
 replace fz2:=fz2'
 replace z3:=z3'
 replace fz3:=fz3'
 replace z4:=z4'
 replace fz4:=fz4'
 replace zz:w.heap.size < W2.heap.size:=Kbq zz hst.size
 replace r0:W2.cell? ⟨w.heap.size+1,0,none⟩=some (.int .i64 0):=hst.cell r0 zr (by omega)
 replace r1:W2.cell? ⟨w.heap.size+1,1,none⟩=some (.int .i64 0):=hst.cell r1 zr (by omega)
 replace r2:W2.cell? ⟨w.heap.size+1,2,none⟩=some (.bool false):=hst.cell r2 zr (by omega)
 replace r3:W2.cell? ⟨w.heap.size+1,3,none⟩=some (.slice none 0 0):=hst.cell r3 zr (by omega)
 replace r4:W2.cell? ⟨w.heap.size+1,4,none⟩=some (.slice none 0 0):=hst.cell r4 zr (by omega)
 replace fr0:W2.frozen? ⟨w.heap.size+1,0,none⟩=false:=hst.frozen fr0 zr (by omega)
 replace fr1:W2.frozen? ⟨w.heap.size+1,1,none⟩=false:=hst.frozen fr1 zr (by omega)
 replace fr2:W2.frozen? ⟨w.heap.size+1,2,none⟩=false:=hst.frozen fr2 zr (by omega)
 replace fr3:W2.frozen? ⟨w.heap.size+1,3,none⟩=false:=hst.frozen fr3 zr (by omega)
 replace fr4:W2.frozen? ⟨w.heap.size+1,4,none⟩=false:=hst.frozen fr4 zr (by omega)
 replace zr:w.heap.size+1 < W2.heap.size:=Kbq zr hst.size
 replace HI:=Q00 (InRow.step HI.out hst (.inl (by omega)))
 have hs2:=hst.size
 replace HB:=Q00 (HB.out.trans (hst.below (by omega) HB.out.size))
 clear hst
 refine (H2.out W2 HB.out).mono ?_
 rintro e v2 ⟨p2,c2,rfl,hown,hb⟩
 have HJ:Hid (InS W2.heap.size v2.heap.size v2 (.slice p2 m.t.length c2) m.t):=InRow.of hown
 replace HI:=Q00 (InRow.step HI.out (Stp.of (lo:=0) (hi:=0) hb) (.inl (Kcq _)))
 have hs3:=hb.size
 clear hown
 replace z0:v2.cell? ⟨w.heap.size,0,none⟩=some (.int .i64 m.id):=(hb.cell (p:=⟨w.heap.size,0,none⟩) zz).trans z0
 replace z1:v2.cell? ⟨w.heap.size,1,none⟩=some (.int .i64 m.lim):=(hb.cell (p:=⟨w.heap.size,1,none⟩) zz).trans z1
 replace z2:v2.cell? ⟨w.heap.size,2,none⟩=some (.bool m.dr):=(hb.cell (p:=⟨w.heap.size,2,none⟩) zz).trans z2
 replace z3:v2.cell? ⟨w.heap.size,3,none⟩=some (.slice p1 m.c.length c1):=(hb.cell (p:=⟨w.heap.size,3,none⟩) zz).trans z3
 replace z4:v2.cell? ⟨w.heap.size,4,none⟩=some (.slice (some ⟨bt,ft,none⟩) m.t.length ct):=(hb.cell (p:=⟨w.heap.size,4,none⟩) zz).trans z4
 replace fz0:v2.frozen? ⟨w.heap.size,0,none⟩=false:=(hb.frozen (p:=⟨w.heap.size,0,none⟩) zz).trans fz0
 replace fz1:v2.frozen? ⟨w.heap.size,1,none⟩=false:=(hb.frozen (p:=⟨w.heap.size,1,none⟩) zz).trans fz1
 replace fz2:v2.frozen? ⟨w.heap.size,2,none⟩=false:=(hb.frozen (p:=⟨w.heap.size,2,none⟩) zz).trans fz2
 replace fz3:v2.frozen? ⟨w.heap.size,3,none⟩=false:=(hb.frozen (p:=⟨w.heap.size,3,none⟩) zz).trans fz3
 replace fz4:v2.frozen? ⟨w.heap.size,4,none⟩=false:=(hb.frozen (p:=⟨w.heap.size,4,none⟩) zz).trans fz4
 replace zz:w.heap.size < v2.heap.size:=Kbq zz hb.size
 replace r0:v2.cell? ⟨w.heap.size+1,0,none⟩=some (.int .i64 0):=(hb.cell (p:=⟨w.heap.size+1,0,none⟩) zr).trans r0
 replace r1:v2.cell? ⟨w.heap.size+1,1,none⟩=some (.int .i64 0):=(hb.cell (p:=⟨w.heap.size+1,1,none⟩) zr).trans r1
 replace r2:v2.cell? ⟨w.heap.size+1,2,none⟩=some (.bool false):=(hb.cell (p:=⟨w.heap.size+1,2,none⟩) zr).trans r2
 replace r3:v2.cell? ⟨w.heap.size+1,3,none⟩=some (.slice none 0 0):=(hb.cell (p:=⟨w.heap.size+1,3,none⟩) zr).trans r3
 replace r4:v2.cell? ⟨w.heap.size+1,4,none⟩=some (.slice none 0 0):=(hb.cell (p:=⟨w.heap.size+1,4,none⟩) zr).trans r4
 replace fr0:v2.frozen? ⟨w.heap.size+1,0,none⟩=false:=(hb.frozen (p:=⟨w.heap.size+1,0,none⟩) zr).trans fr0
 replace fr1:v2.frozen? ⟨w.heap.size+1,1,none⟩=false:=(hb.frozen (p:=⟨w.heap.size+1,1,none⟩) zr).trans fr1
 replace fr2:v2.frozen? ⟨w.heap.size+1,2,none⟩=false:=(hb.frozen (p:=⟨w.heap.size+1,2,none⟩) zr).trans fr2
 replace fr3:v2.frozen? ⟨w.heap.size+1,3,none⟩=false:=(hb.frozen (p:=⟨w.heap.size+1,3,none⟩) zr).trans fr3
 replace fr4:v2.frozen? ⟨w.heap.size+1,4,none⟩=false:=(hb.frozen (p:=⟨w.heap.size+1,4,none⟩) zr).trans fr4
 replace zr:w.heap.size+1 < v2.heap.size:=Kbq zr hb.size
 replace HB:=Q00 (HB.out.trans (hb.mono HB.out.size))
 clear hb
 clear hW2
 go_wp2
 refine bodyPost_ret (v:=agt m.id m.lim m.dr (.slice p1 m.c.length c1) (.slice p2 m.t.length c2)) (by simp [results,Try.results69,go_sem,r0,r1,r2,r3,r4]) rfl ⟨_,rfl, ?_, ?_⟩
 ·have a1:=InRow.step (InRow.step HI.out (Q0s v2 w.heap.size 4 (.slice p2 m.t.length c2)) (.inl (by omega))) (Q04 _ (w.heap.size+1) (.int .i64 m.id) (.int .i64 m.lim) (.bool m.dr) (.slice p1 m.c.length c1) (.slice p2 m.t.length c2)) (.inl (by omega))
  have a2:=InRow.step (InRow.step HJ.out (Q0s v2 w.heap.size 4 (.slice p2 m.t.length c2)) (.inl (by omega))) (Q04 _ (w.heap.size+1) (.int .i64 m.id) (.int .i64 m.lim) (.bool m.dr) (.slice p1 m.c.length c1) (.slice p2 m.t.length c2)) (.inl (by omega))
  exact ⟨_,_,W2.heap.size,rfl,InRow.mono a1 (by omega) (by omega),InRow.mono a2 (Kaq _) (by simp),by omega,by simp;omega⟩
 ·exact Q07 (HB.out.setCell (p:=⟨w.heap.size,4,none⟩) (Kaq _) _) (by omega) _ _ _ _ _
def am0:Am:=⟨0,0,false,[],[]⟩
theorem Q58 {lo hi:Nat} {w:World} (h:lo≤hi):InA lo hi w (agt 0 0 false (.slice none 0 0) (.slice none 0 0)) am0:=
 ⟨_,_,lo,rfl,⟨World.ownsRow_nil _ _ _ _,fun b e=> by cases e⟩,⟨World.ownsRow_nil _ _ _ _,fun b e=> by cases e⟩,Kaq _,h⟩
theorem Q6K {m:Am} (h:Q0o m=true):0 < m.c.length∧0 < m.t.length:=by
 have h:=Q0A.1 h
 have h1:=(Q0d.1 h.2.2.2.2.1).1
 have h2:=(Q0d.1 h.2.2.2.2.2.1).1
 omega
theorem Q6D (g c base:Nat) (l:List Sl) (a p v t:Int) (w:World) (hn:0 < l.length) (hl:l.length≤1048576) (hf:Q0c a p=true) (ho:w.ownsRow base Q0k 5 (.slice (some ⟨g,0,none⟩) l.length c) l.length (l.flatMap Q0e.cs)):
  Calls Try.prog 100 #[tab (.slice (some ⟨g,0,none⟩) l.length c),Q2S a p,Q7S v t] w fun e w'=> e=.returned (.bool (decide (0≤(Q0m l a p).1)))∧w'.ownsRow base Q0k 5 (.slice (some ⟨g,0,none⟩) l.length c) l.length ((Q11 l a p v t).flatMap Q0e.cs)∧Stp g (g+1) w w':=by
 have HO:=Q00 ho
 have hgw:=(ho.lt g rfl).2
 clear ho
 obtain ⟨W0,hW0⟩:∃W,(((w.alloc (.cells #[.slice (some ⟨g,0,none⟩) l.length c] 63)).alloc (.cells #[.int .i64 a,.int .i64 p] 29)).alloc (.cells #[.int .i64 v,.int .i64 t] 98))=W:=⟨_,rfl⟩
 have hb_W0:Below w.heap.size w W0:=by rw [←hW0];exact ((((Below.refl _ _).alloc (Kaq _) _).alloc (by simp <;> omega) _).alloc (by simp <;> omega) _)
 replace HO:=Q00 (Q0a HO.out hb_W0)
 have HB:=Q00 hb_W0
 clear hb_W0
 have zct:w.heap.size < W0.heap.size:=by rw [←hW0];simp <;> omega
 have ct0:W0.cell? ⟨w.heap.size,0,none⟩=some (.slice (some ⟨g,0,none⟩) l.length c):=by rw [←hW0];simp [go_sem]
 have zcf:w.heap.size+1 < W0.heap.size:=by rw [←hW0];simp <;> omega
 have cf0:W0.cell? ⟨w.heap.size+1,0,none⟩=some (.int .i64 a):=by rw [←hW0];simp [go_sem]
 have cf1:W0.cell? ⟨w.heap.size+1,1,none⟩=some (.int .i64 p):=by rw [←hW0];simp [go_sem]
 have zcl:w.heap.size+1+1 < W0.heap.size:=by rw [←hW0];simp
 have cl0:W0.cell? ⟨w.heap.size+1+1,0,none⟩=some (.int .i64 v):=by rw [←hW0];simp [go_sem]
 have cl1:W0.cell? ⟨w.heap.size+1+1,1,none⟩=some (.int .i64 t):=by rw [←hW0];simp [go_sem]
 have hat:=Q1C g 0 c l a p W0 hn hl hf (HO.out.lt g rfl).2 (Q0n HO.out rfl)
 rcases Q4f l hn a p with h1|⟨k,hk,h1⟩
 ·skip
  have HP:=Q00 (Q5t (l:=l) (a:=a) (p:=p) (v:=v) (t:=t) (by rw [h1];decide))
  have HD:=Q00 (show decide (0≤(Q0m l a p).1)=false by rw [h1];rfl)
  rw [h1] at hat
  generalize (Q0m l a p).2=E2 at hat
  clear h1
  go_enter Try.func100,Try.ntmps100
  go_wp2_with fail
  refine (hat).mono ?_
  rintro e v1 ⟨rfl,hb⟩
  replace ct0:v1.cell? ⟨w.heap.size,0,none⟩=some (.slice (some ⟨g,0,none⟩) l.length c):=(hb.cell (p:=⟨w.heap.size,0,none⟩) zct).trans ct0
  replace zct:w.heap.size < v1.heap.size:=Kbq zct hb.size
  replace cf0:v1.cell? ⟨w.heap.size+1,0,none⟩=some (.int .i64 a):=(hb.cell (p:=⟨w.heap.size+1,0,none⟩) zcf).trans cf0
  replace cf1:v1.cell? ⟨w.heap.size+1,1,none⟩=some (.int .i64 p):=(hb.cell (p:=⟨w.heap.size+1,1,none⟩) zcf).trans cf1
  replace zcf:w.heap.size+1 < v1.heap.size:=Kbq zcf hb.size
  replace cl0:v1.cell? ⟨w.heap.size+1+1,0,none⟩=some (.int .i64 v):=(hb.cell (p:=⟨w.heap.size+1+1,0,none⟩) zcl).trans cl0
  replace cl1:v1.cell? ⟨w.heap.size+1+1,1,none⟩=some (.int .i64 t):=(hb.cell (p:=⟨w.heap.size+1+1,1,none⟩) zcl).trans cl1
  replace zcl:w.heap.size+1+1 < v1.heap.size:=Kbq zcl hb.size
  replace HO:=Q00 (Q0a HO.out hb)
  replace HB:=Q00 (HB.out.trans (hb.mono HB.out.size))
  clear hb
  clear hat
  go_wp2
  go_ret
  exact ⟨by rw [HD.out];rfl,by rw [HP.out];exact HO.out,Stp.of HB.out⟩
 ·skip
  have HP:=Q00 (Q3h (l:=l) (a:=a) (p:=p) (v:=v) (t:=t) h1)
  have HD:=Q00 (show decide (0≤(Q0m l a p).1)=true by rw [h1];simp)
  rw [h1] at hat
  generalize (Q0m l a p).2=E2 at hat
  clear h1
  have hk':(k:Int) < (l.length:Int):=by omega
  go_enter Try.func100,Try.ntmps100
  go_wp2_with fail
  refine (hat).mono ?_
  rintro e v1 ⟨rfl,hb⟩
  replace ct0:v1.cell? ⟨w.heap.size,0,none⟩=some (.slice (some ⟨g,0,none⟩) l.length c):=(hb.cell (p:=⟨w.heap.size,0,none⟩) zct).trans ct0
  replace zct:w.heap.size < v1.heap.size:=Kbq zct hb.size
  replace cf0:v1.cell? ⟨w.heap.size+1,0,none⟩=some (.int .i64 a):=(hb.cell (p:=⟨w.heap.size+1,0,none⟩) zcf).trans cf0
  replace cf1:v1.cell? ⟨w.heap.size+1,1,none⟩=some (.int .i64 p):=(hb.cell (p:=⟨w.heap.size+1,1,none⟩) zcf).trans cf1
  replace zcf:w.heap.size+1 < v1.heap.size:=Kbq zcf hb.size
  replace cl0:v1.cell? ⟨w.heap.size+1+1,0,none⟩=some (.int .i64 v):=(hb.cell (p:=⟨w.heap.size+1+1,0,none⟩) zcl).trans cl0
  replace cl1:v1.cell? ⟨w.heap.size+1+1,1,none⟩=some (.int .i64 t):=(hb.cell (p:=⟨w.heap.size+1+1,1,none⟩) zcl).trans cl1
  replace zcl:w.heap.size+1+1 < v1.heap.size:=Kbq zcl hb.size
  replace HO:=Q00 (Q0a HO.out hb)
  replace HB:=Q00 (HB.out.trans (hb.mono HB.out.size))
  clear hb
  have ho:v1.ownsRow base Q0k 5 (.slice (some ⟨g,0,none⟩) l.length c) l.length (l.flatMap Q0e.cs):=HO.out
  have hln:(l.flatMap Q0e.cs).length=l.length * 5:=by rw [Q0u];rfl
  obtain ⟨u0,hu0⟩:∃u,v1.cell? ⟨g,k * 5,none⟩=some u:=⟨_,(ho.cellAt (k * 5) (by omega)).trans (List.getElem?_eq_getElem (by omega))⟩
  have hf0:=ho.frozenAt (k * 5)
  obtain ⟨u1,hu1⟩:∃u,v1.cell? ⟨g,k * 5+1,none⟩=some u:=⟨_,(ho.cellAt (k * 5+1) (by omega)).trans (List.getElem?_eq_getElem (by omega))⟩
  have hf1:=ho.frozenAt (k * 5+1)
  obtain ⟨u2,hu2⟩:∃u,v1.cell? ⟨g,k * 5+2,none⟩=some u:=⟨_,(ho.cellAt (k * 5+2) (by omega)).trans (List.getElem?_eq_getElem (by omega))⟩
  have hf2:=ho.frozenAt (k * 5+2)
  obtain ⟨u3,hu3⟩:∃u,v1.cell? ⟨g,k * 5+3,none⟩=some u:=⟨_,(ho.cellAt (k * 5+3) (by omega)).trans (List.getElem?_eq_getElem (by omega))⟩
  have hf3:=ho.frozenAt (k * 5+3)
  obtain ⟨u4,hu4⟩:∃u,v1.cell? ⟨g,k * 5+4,none⟩=some u:=⟨_,(ho.cellAt (k * 5+4) (by omega)).trans (List.getElem?_eq_getElem (by omega))⟩
  have hf4:=ho.frozenAt (k * 5+4)
  have HS:=Q00 (Q1I (k:=k) ⟨true,a,p,v,t⟩ (Kaq g) ho (Below.refl g v1))
  have HSt:=Q00 ((Stp.of (lo:=g) (hi:=g+1) HB.out).trans (Q1z v1 g k ⟨true,a,p,v,t⟩))
  clear ho hln hat
  go_wp2
  go_ret
  exact ⟨by rw [HD.out];rfl,by rw [HP.out];exact HS.out.1,HSt.out⟩
theorem Stp.drew {lo hi:Nat} {w w':World} (h:Stp lo hi w w'):Stp lo hi w w'.drew:=⟨h.os,h.tape,h.output,h.size,h.block⟩
def Q0F (m:List Sl):Prop:=∀j,j < m.length→(m.getD j sl0).u=true→Q0c (m.getD j sl0).a (m.getD j sl0).p=true
theorem Q1s {l:List Sl} (h:Q0b l=true):Q0F l:=fun j hj hu=> by
 have ht:=(Q0d.1 h).2.2 j hj
 unfold Q26 at ht
 exact ((Q2f hu).1 ((Bool.and_eq_true _ _).mp ht).1).1
theorem Q2H {m:List Sl} (h:Q0F m) (i:Nat) (s:Sl) (hs:s.u=true→Q0c s.a s.p=true):Q0F (m.set i s):=fun j hj hu=> by
 rw [List.length_set] at hj
 by_cases e:i=j
 ·subst e
  rw [Q0I _ _ _ hj] at hu ⊢
  exact hs hu
 ·rw [Q1b _ _ _ _ e] at hu ⊢
  exact h j hj hu
structure DropInv (n:Nat) (R:List Sl) (g:Nat) (m:List Sl) (i k:Nat):Prop where
 len:m.length=n
 le:n≤16
 hi:i < n
 hk:k < n
 free:(m.getD i sl0).u=false
 ok:Q0F m
 go:Q1y n (g+1) m i k=R
 ms:Q6l m i k≤g
theorem DropInv.done {n g i k:Nat} {R m:List Sl} (h:DropInv n R g m i k) (hu:(m.getD k sl0).u=false):m=R:=by
 rw [←h.go,Q5R hu]
theorem DropInv.move {n g i k:Nat} {R m:List Sl} (h:DropInv n R g m i k) (hu:(m.getD k sl0).u=true) (hm:Q2D n m i k=true):1≤g∧DropInv n R (g - 1) ((m.set i (m.getD k sl0)).set k sl0) k ((k+1) % n):=by
 obtain ⟨hlen,hle,hi,hk,hfree,hok,hgo,hms⟩:=h
 subst hlen
 have hd:=Q6d hle hi hk hfree hu hm
 have hg:1≤g:=by omega
 refine ⟨hg,by simp,hle,hk,Q1F (by omega) k, ?_, ?_, ?_, ?_⟩
 ·rw [Q0I _ _ _ (by simpa using hk)]
 ·exact Q2H (Q2H hok i _ (fun hq=> hok k hk hq)) k _ (fun hq=> by cases hq)
 ·rw [←hgo,Q5m hu hm,show g - 1+1=g by omega]
 ·omega
theorem DropInv.stay {n g i k:Nat} {R m:List Sl} (h:DropInv n R g m i k) (hu:(m.getD k sl0).u=true) (hm:Q2D n m i k=false):1≤g∧DropInv n R (g - 1) m i ((k+1) % n):=by
 obtain ⟨hlen,hle,hi,hk,hfree,hok,hgo,hms⟩:=h
 subst hlen
 have hne:k≠i:=fun e=> by rw [e,hfree] at hu;cases hu
 have hd:=Q6e hi hk hne
 have hg:1≤g:=by omega
 refine ⟨hg,rfl,hle,hi,Q1F (by omega) k,hfree,hok, ?_,by omega⟩
 rw [←hgo,Q5w hu hm,show g - 1+1=g by omega]
theorem DropInv.start {l:List Sl} {i:Nat} (hle:l.length≤16) (hi:i < l.length) (hok:Q0F l):DropInv l.length (Q1j l i) (Q6l (l.set i sl0) i ((i+1) % l.length)) (l.set i sl0) i ((i+1) % l.length):=
 ⟨by simp,hle,hi,Q1F (by omega) i,by rw [Q0I _ _ _ hi],Q2H hok i _ (fun h=> by cases h),rfl,Kaq _⟩
theorem Q4S {n i k:Nat} {m:List Sl}:Q2D n m i k=true↔Q0U n i k≤Q0U n (Q0B n (m.getD k sl0).a (m.getD k sl0).p) k:=by simp [Q2D]
theorem Q1U (n:Nat):∀(f:Nat) (l:List Sl) (i k:Nat),(Q1y n f l i k).length=l.length
 |0,l,i,k=> rfl
 |f+1,l,i,k=> by
  unfold Q1y
  split
  ·split
   ·rw [Q1U n f];simp
   ·rw [Q1U n f]
  ·rfl
theorem Q3U (l:List Sl) (i:Nat):(Q1j l i).length=l.length:=by unfold Q1j;rw [Q1U];simp
def Q1N (l:List Sl) (a p:Int):List Sl:=if (Q0m l a p).2=true then Q1j l (Q0m l a p).1.toNat else l
theorem Q22 (l:List Sl) (a p:Int):(Q1N l a p).length=l.length:=by
 unfold Q1N
 split
 ·exact Q3U _ _
 ·rfl
theorem Q2c {l:List Sl} {a p:Int} (h:(Q0m l a p).2=false):Q1N l a p=l:=by unfold Q1N;rw [h];rfl
theorem Q2M {l:List Sl} {a p:Int} {k:Nat} (h:Q0m l a p=((k:Int),true)):Q1N l a p=Q1j l k:=by unfold Q1N;rw [h];simp
theorem Q2p {n h d:Nat} (hh:h < n) (hd:d < n):Q0U n h ((h+d) % n)=d:=by
 by_cases e:h+d < n
 ·rw [Q1t e,Q0D hh e,if_pos (by omega)];omega
 ·rw [Q4A (by omega) (by omega),Q0D hh (by omega)]
  split <;> omega
theorem Q2m {n h x:Nat} (hh:h < n) (hx:x < n):(h+Q0U n h x) % n=x:=by
 rw [Q0D hh hx]
 split
 ·rw [Q1t (by omega)];omega
 ·rw [Q4A (by omega) (by omega)];omega
theorem Q6y {n h x:Nat} (hh:h < n) (hx:x < n):Q0U n h x < n:=Nat.mod_lt _ (by omega)
theorem Q6Q {n h x y:Nat} (hh:h < n) (hx:x < n) (hy:y < n) (e:Q0U n h x=Q0U n h y):x=y:=by
 rw [←Q2m hh hx,e,Q2m hh hy]
theorem Q7V {n h i k:Nat} (hh:h < n) (hi:i < n) (hk:k < n) (hne:i≠k):Q0U n h i < Q0U n h k↔Q0U n i k≤Q0U n h k:=by
 rw [Q0D hh hi,Q0D hh hk,Q0D hi hk]
 (repeat' split) <;> omega
theorem Q8j {n h i k:Nat} (hh:h < n) (hi:i < n) (hk:k < n) (h1:Q0U n h i < Q0U n h k):Q0U n h k=Q0U n h i+Q0U n i k:=by
 rw [Q0D hh hi,Q0D hh hk] at h1
 rw [Q0D hh hi,Q0D hh hk,Q0D hi hk]
 (repeat' split at h1) <;> (repeat' split) <;> omega
theorem Q7m {n i:Nat} (hi:i < n):Q0U n i i=0:=by rw [Q0D hi hi,if_pos (Kaq _)];omega
theorem Q6G {n i j:Nat} (hi:i < n) (hj:j < n) (hne:i≠j):1≤Q0U n i j:=by
 rw [Q0D hi hj];split <;> omega
abbrev at' (m:List Sl) (j:Nat):Sl:=m.getD j sl0
abbrev hm (m:List Sl) (j:Nat):Nat:=Q0B m.length (at' m j).a (at' m j).p
structure Gapless (m:List Sl) (i:Nat):Prop where
 slots:Q3x m m.length
 dist:∀x y,x < m.length→y < m.length→(at' m x).u=true→(at' m y).u=true→(at' m x).a=(at' m y).a→(at' m x).p=(at' m y).p→x=y
 gap:∀j x,j < m.length→x < m.length→(at' m j).u=true→Q0U m.length (hm m j) x < Q0U m.length (hm m j) j→(at' m x).u=true∨x=i
theorem Q4N {a p:Int}:∀{L:List Met} {E:Int × Bool},Q3E a p L=some E→∃x,x∈L∧Q1Q a p x=some E
 |[],E,h=> by simp [Q3E] at h
 |x::L,E,h=> by
  unfold Q3E at h
  rw [List.findSome?_cons] at h
  cases hx:Q1Q a p x with
  |none=> rw [hx] at h;obtain ⟨y,hy,e⟩:=Q4N (L:=L) (E:=E) h;exact ⟨y,List.mem_cons_of_mem _ hy,e⟩
  |some E'=> rw [hx] at h;exact ⟨x,List.mem_cons_self,by rw [hx];exact h⟩
theorem Q4Q {a p:Int}:∀{L:List Met},(∀x,x∈L→Q1Q a p x=none)→Q3E a p L=none
 |[],_=> rfl
 |x::L,h=> by
  unfold Q3E
  rw [List.findSome?_cons,h x List.mem_cons_self]
  exact Q4Q (L:=L) (fun y hy=> h y (List.mem_cons_of_mem _ hy))
theorem Q56 {f:Nat→Met} {k:Nat} {x:Met}:x∈Q1v f k↔∃d,d < k∧f d=x:=by simp [Q1v]
theorem Q5a {a p:Int} {x:Met} {E:Int × Bool} (h:Q1Q a p x=some E):E.1=(x.1:Int):=by
 unfold Q1Q at h
 split at h
 ·split at h
  ·cases h;rfl
  ·cases h
 ·cases h;rfl
theorem Q44 {a p:Int} {x:Met}:Q1Q a p x=none↔x.2.u=true∧¬(x.2.a=a∧x.2.p=p):=by
 unfold Q1Q
 by_cases h1:x.2.u=true
 ·rw [if_pos h1]
  by_cases h2:x.2.a=a∧x.2.p=p
  ·rw [if_pos h2];simp [h1,h2]
  ·rw [if_neg h2];simp [h1,h2]
 ·rw [if_neg h1];simp [h1]
theorem Q2E {l:List Sl} (hn:0 < l.length) {a p:Int} {j:Nat} (hj:j < l.length) {f:Bool} (h:Q0m l a p=((j:Int),f)) (x:Nat) (hx:x < l.length) (hd:Q0U l.length (Q0B l.length a p) x < Q0U l.length (Q0B l.length a p) j):(at' l x).u=true∧¬((at' l x).a=a∧(at' l x).p=p):=by
 have hh:=Q0V hn a p
 generalize hhe:Q0B l.length a p=h0 at *
 have hfx:=Q6y hh hx
 have hme:Q1x l h0 (Q0U l.length h0 x)=(x,at' l x):=by unfold Q1x;rw [Q2m hh hx]
 cases hs:Q1Q a p (x,at' l x) with
 |none=> exact Q44.1 hs
 |some E0=>
  exfalso
  cases hsc:Q3E a p (Q1v (Q1x l h0) (Q0U l.length h0 x+1)) with
  |none=>
   rw [Q1K] at hsc
   have h1:Q3E a p (Q1v (Q1x l h0) (Q0U l.length h0 x))=none:=by
    cases hq:Q3E a p (Q1v (Q1x l h0) (Q0U l.length h0 x)) with
    |none=> rfl
    |some E=> rw [Q4J _ _ _ _ hq] at hsc;cases hsc
   rw [Q3y _ _ _ _ h1,hme,hs] at hsc
   cases hsc
  |some E1=>
   have he:=Q3l (l:=l) hn (a:=a) (p:=p) (k:=Q0U l.length h0 x+1) (E:=E1) (by omega) (by rw [hhe];exact hsc)
   obtain ⟨y,hy,hy2⟩:=Q4N hsc
   obtain ⟨d,hdl,rfl⟩:=Q56.1 hy
   have hpl:=Q5a hy2
   rw [←he,h] at hpl
   have hjd:j=(h0+d) % l.length:=by have:(j:Int)=((h0+d) % l.length:Nat):=hpl;omega
   have:=Q2p hh (show d < l.length by omega)
   rw [←hjd] at this
   omega
theorem Q4y {l:List Sl} (hn:0 < l.length) {a p:Int} {j:Nat} (hj:j < l.length) (hu:(at' l j).u=true) (ha:(at' l j).a=a) (hp:(at' l j).p=p) (hb:∀x,x < l.length→Q0U l.length (Q0B l.length a p) x < Q0U l.length (Q0B l.length a p) j→(at' l x).u=true∧¬((at' l x).a=a∧(at' l x).p=p)):Q0m l a p=((j:Int),true):=by
 have hh:=Q0V hn a p
 have hfj:=Q6y hh hj
 refine Q3l hn (k:=Q0U l.length (Q0B l.length a p) j+1) (by omega) ?_
 rw [Q1K,Q3y]
 ·unfold Q1x Q1Q
  rw [Q2m hh hj]
  simp only
  rw [if_pos hu,if_pos ⟨ha,hp⟩]
 ·refine Q4Q ?_
  intro y hy
  obtain ⟨d,hd,rfl⟩:=Q56.1 hy
  have hx:=Nat.mod_lt (Q0B l.length a p+d) hn
  refine Q44.2 (hb _ hx ?_)
  rw [Q2p hh (by omega)]
  exact hd
theorem Q5I {l:List Sl} (h:Q0b l=true) (i:Nat):Gapless l i:=by
 obtain ⟨h1,h2,h3⟩:=Q0d.1 h
 have hw:∀j,j < l.length→(at' l j).u=true→Q0m l (at' l j).a (at' l j).p=((j:Int),true):=fun j hj hu=> by
  have ht:=((Bool.and_eq_true _ _).mp (h3 j hj)).2
  unfold Q4G at ht
  rw [hu] at ht
  simpa using ht
 refine ⟨fun j hj=> ((Bool.and_eq_true _ _).mp (h3 j hj)).1, ?_, ?_⟩
 ·intro x y hx hy hux huy ha hp
  have e1:=hw x hx hux
  have e2:=hw y hy huy
  rw [ha,hp,e2] at e1
  have:(y:Int)=x:=congrArg Prod.fst e1
  omega
 ·intro j x hj hx hu hd
  exact .inl (Q2E (by omega) hj (hw j hj hu) x hx hd).1
theorem Q4u {l:List Sl} (h1:1≤l.length) (h2:l.length≤16) (hs:Q3x l l.length)
  (hd:∀x y,x < l.length→y < l.length→(at' l x).u=true→(at' l y).u=true→(at' l x).a=(at' l y).a→(at' l x).p=(at' l y).p→x=y)
  (hg:∀j x,j < l.length→x < l.length→(at' l j).u=true→Q0U l.length (hm l j) x < Q0U l.length (hm l j) j→(at' l x).u=true):Q0b l=true:=by
 refine Q0d.2 ⟨h1,h2,fun j hj=> ?_⟩
 cases hu:(at' l j).u with
 |false=> exact Q2d hu (hs j hj)
 |true=>
  refine Q2h (hs j hj) (Q4y (by omega) hj hu rfl rfl ?_)
  intro x hx hfx
  refine ⟨hg j x hj hx hu hfx,fun ⟨e1,e2⟩=> ?_⟩
  have:=hd x j hx hj (hg j x hj hx hu hfx) hu e1 e2
  subst this
  omega
structure WInv (m:List Sl) (i c:Nat):Prop where
 gl:Gapless m i
 lt:c < m.length
 seen:∀j,j < m.length→(at' m j).u=true→Q0U m.length i j≤c→¬Q0U m.length (hm m j) i < Q0U m.length (hm m j) j
theorem Q0Q {m:List Sl} {i:Nat} (s:Sl) (h:i < m.length):at' (m.set i s) i=s:=Q0I m i s h
theorem Q0z {m:List Sl} {i j:Nat} (s:Sl) (h:i≠j):at' (m.set i s) j=at' m j:=Q1b m i j s h
theorem Q6c {m:List Sl} {i j:Nat} (s:Sl) (h:i≠j):hm (m.set i s) j=hm m j:=by unfold hm;rw [Q0z s h,List.length_set]
theorem Q7H {m:List Sl} (hn:0 < m.length) (j:Nat):hm m j < m.length:=Q0V hn _ _
theorem WInv.start {l:List Sl} {i:Nat} (h:Q0b l=true) (hi:i < l.length):WInv (l.set i sl0) i 0:=by
 have hg:=Q5I h i
 obtain ⟨h1,_,_⟩:=Q0d.1 h
 have hne:∀j,(at' (l.set i sl0) j).u=true→i≠j:=fun j hu e=> by rw [←e,Q0Q _ hi] at hu;cases hu
 refine ⟨⟨?_, ?_, ?_⟩,(by rw [List.length_set];omega), ?_⟩
 ·intro j hj
  rw [List.length_set] at hj
  by_cases e:i=j
  ·subst e;rw [Q0I _ _ _ hi];rfl
  ·rw [Q1b _ _ _ _ e];exact hg.slots j hj
 ·intro x y hx hy hux huy ha hp
  have ex:=hne x hux
  have ey:=hne y huy
  rw [List.length_set] at hx hy
  rw [Q0z _ ex] at hux ha hp
  rw [Q0z _ ey] at huy ha hp
  exact hg.dist x y hx hy hux huy ha hp
 ·intro j x hj hx hu hd
  have ej:=hne j hu
  rw [List.length_set] at hj hx hd
  rw [Q6c _ ej] at hd
  rw [Q0z _ ej] at hu
  by_cases e:i=x
  ·exact .inr e.symm
  ·left
   rw [Q0z _ e]
   rcases hg.gap j x hj hx hu hd with hq|hq
   ·exact hq
   ·exact absurd hq.symm e
 ·intro j hj hu hd
  have ej:=hne j hu
  rw [List.length_set] at hj hd
  have:=Q6G hi hj ej
  omega
theorem WInv.stay {m:List Sl} {i c k:Nat} (h:WInv m i c) (hi:i < m.length) (hk:k=(i+1+c) % m.length) (hu:(at' m k).u=true) (hfree:(at' m i).u=false) (hmv:¬Q0U m.length i k≤Q0U m.length (hm m k) k):WInv m i (c+1):=by
 have hn:0 < m.length:=by omega
 have hkl:k < m.length:=by rw [hk];exact Nat.mod_lt _ hn
 have hne:i≠k:=fun e=> by rw [e,hu] at hfree;cases hfree
 have hc1:c+1 < m.length:=by
  rcases Nat.lt_or_ge (c+1) m.length with h1|h1
  ·exact h1
  ·exfalso
   have:=h.lt
   have e:i+1+c=i+m.length:=by omega
   rw [e,Nat.add_mod_right,Q1t hi] at hk
   exact hne hk.symm
 have hfk:Q0U m.length i k=c+1:=by rw [hk,Nat.add_assoc,Nat.add_comm 1 c];exact Q2p hi hc1
 refine ⟨h.gl,hc1,fun j hj huj hd=> ?_⟩
 rcases Nat.lt_or_ge c (Q0U m.length i j) with h1|h1
 ·have e:j=k:=Q6Q hi hj hkl (by omega)
  subst e
  intro hq
  exact hmv ((Q7V (Q7H hn j) hi hkl hne).1 hq)
 ·exact h.seen j hj huj h1
theorem WInv.move {m:List Sl} {i c k:Nat} (h:WInv m i c) (hi:i < m.length) (hkl:k < m.length) (hu:(at' m k).u=true) (hfree:(at' m i).u=false) (hmv:Q0U m.length i k≤Q0U m.length (hm m k) k):WInv ((m.set i (at' m k)).set k sl0) k 0:=by
 have hn:0 < m.length:=by omega
 have hne:i≠k:=fun e=> by rw [e,hu] at hfree;cases hfree
 have hlen:((m.set i (at' m k)).set k sl0).length=m.length:=by simp
 have hon:=(Q7V (Q7H hn k) hi hkl hne).2 hmv
 have ai:at' ((m.set i (at' m k)).set k sl0) i=at' m k:=by rw [Q0z _ (fun e=> hne e.symm),Q0Q _ hi]
 have ak:at' ((m.set i (at' m k)).set k sl0) k=sl0:=Q0Q _ (by simpa using hkl)
 have ao:∀x,x≠i→x≠k→at' ((m.set i (at' m k)).set k sl0) x=at' m x:=fun x h1 h2=> by rw [Q0z _ (fun e=> h2 e.symm),Q0z _ (fun e=> h1 e.symm)]
 have hmi:hm ((m.set i (at' m k)).set k sl0) i=hm m k:=by unfold hm;rw [ai,hlen]
 have hmo:∀x,x≠i→x≠k→hm ((m.set i (at' m k)).set k sl0) x=hm m x:=fun x h1 h2=> by unfold hm;rw [ao x h1 h2,hlen]
 have hnk:∀x,(at' ((m.set i (at' m k)).set k sl0) x).u=true→x≠k:=fun x hq e=> by rw [e,ak] at hq;cases hq
 refine ⟨⟨?_, ?_, ?_⟩,by rw [hlen];exact hn, ?_⟩
 ·intro j hj
  rw [hlen] at hj
  by_cases e1:j=k
  ·subst e1;show Q1i (at' _ j)=true;rw [ak];rfl
  ·by_cases e2:j=i
   ·subst e2;show Q1i (at' _ j)=true;rw [ai];exact h.gl.slots k hkl
   ·show Q1i (at' _ j)=true;rw [ao j e2 e1];exact h.gl.slots j hj
 ·intro x y hx hy hux huy ha hp
  have ex:=hnk x hux
  have ey:=hnk y huy
  rw [hlen] at hx hy
  by_cases e1:x=i
  ·by_cases e2:y=i
   ·rw [e1,e2]
   ·rw [e1,ai] at ha hp
    rw [ao y e2 ey] at huy ha hp
    exact absurd (h.gl.dist k y hkl hy hu huy ha hp).symm ey
  ·by_cases e2:y=i
   ·rw [e2,ai] at ha hp
    rw [ao x e1 ex] at hux ha hp
    exact absurd (h.gl.dist x k hx hkl hux hu ha hp) ex
   ·rw [ao x e1 ex] at hux ha hp
    rw [ao y e2 ey] at huy ha hp
    exact h.gl.dist x y hx hy hux huy ha hp
 ·intro j x hj hx huj hd
  have ej:=hnk j huj
  rw [hlen] at hj hx hd
  by_cases e1:x=k
  ·exact .inr e1
  ·left
   by_cases e2:x=i
   ·rw [e2,ai];exact hu
   ·rw [ao x e2 e1]
    by_cases e3:j=i
    ·rw [e3,hmi] at hd
     rcases h.gl.gap k x hkl hx hu (by omega) with hq|hq
     ·exact hq
     ·exact absurd hq e2
    ·rw [hmo j e3 ej] at hd
     rw [ao j e3 ej] at huj
     rcases h.gl.gap j x hj hx huj hd with hq|hq
     ·exact hq
     ·exact absurd hq e2
 ·intro j hj huj hd
  rw [hlen] at hj hd
  have:=Q6G hkl hj (fun e=> hnk j huj e.symm)
  omega
theorem WInv.done {m:List Sl} {i c k:Nat} (h:WInv m i c) (h16:m.length≤16) (hi:i < m.length) (hk:k=(i+1+c) % m.length) (hfree:(at' m k).u=false):Q0b m=true:=by
 have hn:0 < m.length:=by omega
 have hkl:k < m.length:=by rw [hk];exact Nat.mod_lt _ hn
 refine Q4u (by omega) h16 h.gl.slots h.gl.dist ?_
 intro j x hj hx hu hd
 rcases h.gl.gap j x hj hx hu hd with hq|hq
 ·exact hq
 ·exfalso
  subst hq
  have hs:c < Q0U m.length x j:=Nat.lt_of_not_le fun hle=> h.seen j hj hu hle hd
  have hlt:=Q6y hi hj
  have hfk:Q0U m.length x k=c+1:=by rw [hk,Nat.add_assoc,Nat.add_comm 1 c];exact Q2p hi (by omega)
  have hjk:j≠k:=fun e=> by rw [e,hfree] at hu;cases hu
  have hlt2:Q0U m.length x k < Q0U m.length x j:=by
   rcases Nat.lt_or_ge (c+1) (Q0U m.length x j) with h1|h1
   ·omega
   ·exact absurd (Q6Q hi hj hkl (by omega)) hjk
  have e1:=Q8j (Q7H hn j) hi hj hd
  have hxk:x≠k:=fun e=> by rw [e,Q7m hkl] at hfk;omega
  have hk2:Q0U m.length (hm m j) k < Q0U m.length (hm m j) j:=by
   have:=Q7H hn j
   have a1:=Q0D this hkl
   have a2:=Q0D this hi
   have a3:=Q0D this hj
   have a4:=Q0D hi hkl
   have a5:=Q0D hi hj
   (repeat' split at a1) <;> (repeat' split at a2) <;> (repeat' split at a3) <;> (repeat' split at a4) <;> (repeat' split at a5) <;> omega
  rcases h.gl.gap j k hj hkl hu hk2 with h1|h1
  ·rw [h1] at hfree;cases hfree
  ·exact hxk h1.symm
theorem Q2V {n:Nat} {R:List Sl}:∀(g:Nat) (m:List Sl) (i c k:Nat),k=(i+1+c) % n→DropInv n R g m i k→WInv m i c→Q0b R=true
 |g,m,i,c,k,hk,hD,hW=> by
  have hlen:=hD.len
  have hi:=hD.hi
  have hkl:=hD.hk
  have hf:=hD.free
  cases hu:(m.getD k sl0).u with
  |false=>
   rw [←hD.done hu]
   exact hW.done (by have:=hD.le;omega) (by omega) (by rw [hlen];exact hk) hu
  |true=>
   cases hm':Q2D n m i k with
   |true=>
    obtain ⟨hg,hN⟩:=hD.move hu hm'
    obtain ⟨g',rfl⟩:∃g',g=g'+1:=⟨g - 1,by omega⟩
    have hmv:=Q4S.1 hm'
    exact Q2V g' _ k 0 _ (by rw [Nat.add_zero]) hN (hW.move (by omega) (by omega) hu hf (by rw [hlen];unfold hm;rw [hlen];exact hmv))
   |false=>
    obtain ⟨hg,hN⟩:=hD.stay hu hm'
    obtain ⟨g',rfl⟩:∃g',g=g'+1:=⟨g - 1,by omega⟩
    have hmv:¬Q0U n i k≤Q0U n (Q0B n (m.getD k sl0).a (m.getD k sl0).p) k:=fun hq=> by rw [Q4S.2 hq] at hm';cases hm'
    refine Q2V g' m i (c+1) _ ?_ hN (hW.stay (by omega) (by rw [hlen];exact hk) hu hf (by rw [hlen];unfold hm;rw [hlen];exact hmv))
    rw [hk,Nat.mod_add_mod];congr 1
theorem Q42 {l:List Sl} {i:Nat} (h:Q0b l=true) (hi:i < l.length):Q0b (Q1j l i)=true:=by
 obtain ⟨h1,h2,_⟩:=Q0d.1 h
 exact Q2V _ _ i 0 _ (by rw [Nat.add_zero]) (DropInv.start h2 hi (Q1s h)) (WInv.start h hi)
theorem Q7U {m:List Sl} {i:Nat} (h:Q0b m=true) (hi:i < m.length) (hu:(at' m i).u=true):Q0m m (at' m i).a (at' m i).p=((i:Int),true):=by
 have ht:=((Bool.and_eq_true _ _).mp ((Q0d.1 h).2.2 i hi)).2
 unfold Q4G at ht
 rw [show (m.getD i sl0).u=true from hu] at ht
 simpa using ht
theorem Q2L {l:List Sl} (h:Q0b l=true) {a p:Int} {j:Nat}:Q0m l a p=((j:Int),true)↔j < l.length∧(at' l j).u=true∧(at' l j).a=a∧(at' l j).p=p:=by
 have hn:=(Q0d.1 h).1
 constructor
 ·intro e
  rcases Q0C l (by omega) a p with e1|⟨k,hk,⟨e1,_⟩|⟨e1,hu,ha,hp⟩⟩
  ·rw [e1] at e;cases e
  ·rw [e1] at e;injection e with _ e;cases e
  ·rw [e1] at e
   injection e with e _
   have:k=j:=by omega
   subst this
   exact ⟨hk,hu,ha,hp⟩
 ·rintro ⟨hj,hu,rfl,rfl⟩
  exact Q7U h hj hu
theorem Q6q {l:List Sl} {a p v t:Int} {k:Nat} {f:Bool} (h:Q0b l=true) (hf:Q0c a p=true) (hv:0≤v∧v≤100000) (ht:0≤t∧t≤200000) (hk:k < l.length) (he:Q0m l a p=((k:Int),f)):Q0b (l.set k ⟨true,a,p,v,t⟩)=true:=by
 obtain ⟨h1,h2,h3⟩:=Q0d.1 h
 have hlen:(l.set k ⟨true,a,p,v,t⟩).length=l.length:=List.length_set
 have hs:=Q0Q (m:=l) ⟨true,a,p,v,t⟩ hk
 refine Q0d.2 ⟨by omega,by omega,fun i hi=> ?_⟩
 rw [hlen] at hi
 by_cases hik:k=i
 ·subst hik
  refine Q2h ?_ ?_
  ·rw [show (l.set k ⟨true,a,p,v,t⟩).getD k sl0=⟨true,a,p,v,t⟩ from hs]
   exact (Q2f rfl).2 ⟨hf,hv.1,hv.2,ht.1,ht.2⟩
  ·rw [show (l.set k ⟨true,a,p,v,t⟩).getD k sl0=⟨true,a,p,v,t⟩ from hs]
   refine Q4y (by omega) (by omega) (by rw [hs]) (by rw [hs]) (by rw [hs]) (fun x hx hd=> ?_)
   rw [hlen] at hx hd
   have hne:k≠x:=fun e=> by rw [e] at hd;exact absurd hd (Nat.lt_irrefl _)
   rw [Q0z _ hne]
   exact Q2E (by omega) hk he x hx hd
 ·have hg:=Q0z (m:=l) ⟨true,a,p,v,t⟩ hik
  have h4:=(Bool.and_eq_true _ _).mp (h3 i hi)
  cases hu:(at' l i).u with
  |false=> exact Q2d (by rw [show (l.set k ⟨true,a,p,v,t⟩).getD i sl0=at' l i from hg];exact hu) (by rw [show (l.set k ⟨true,a,p,v,t⟩).getD i sl0=at' l i from hg];exact h4.1)
  |true=>
   have hw:=Q7U h hi hu
   refine Q2h ?_ ?_
   ·rw [show (l.set k ⟨true,a,p,v,t⟩).getD i sl0=at' l i from hg];exact h4.1
   ·rw [show (l.set k ⟨true,a,p,v,t⟩).getD i sl0=at' l i from hg]
    refine Q4y (by omega) (by omega) (by rw [hg];exact hu) (by rw [hg]) (by rw [hg]) (fun x hx hd=> ?_)
    rw [hlen] at hx hd
    by_cases hkx:k=x
    ·subst hkx
     rw [hs]
     refine ⟨rfl,fun e=> hik ?_⟩
     rw [←e.1,←e.2,he] at hw
     injection hw with hw _
     omega
    ·rw [Q0z _ hkx]
     exact Q2E (by omega) hi hw x hx hd
theorem Q3I {l:List Sl} {a p v t:Int} (h:Q0b l=true) (hf:Q0c a p=true) (hv:0≤v∧v≤100000) (ht:0≤t∧t≤200000):Q0b (Q11 l a p v t)=true:=by
 have hn:=(Q0d.1 h).1
 rcases Q0C l (by omega) a p with e|⟨k,hk,⟨e,_⟩|⟨e,_⟩⟩
 ·unfold Q11;rw [e,if_neg (by decide)];exact h
 ·unfold Q11;rw [e,if_pos (by simp)];simpa using Q6q h hf hv ht hk e
 ·unfold Q11;rw [e,if_pos (by simp)];simpa using Q6q h hf hv ht hk e
theorem Q6X {l:List Sl} {a p v t:Int} (h:Q0b l=true) (hf:Q0c a p=true) (hv:0≤v∧v≤100000) (ht:0≤t∧t≤200000) {k:Nat} {f:Bool} (hk:k < l.length) (he:Q0m l a p=((k:Int),f)):Q0m (l.set k ⟨true,a,p,v,t⟩) a p=((k:Int),true):=by
 refine (Q2L (Q6q h hf hv ht hk he)).2 ⟨by rw [List.length_set];exact hk, ?_, ?_, ?_⟩ <;> rw [Q0Q _ hk]
def Q8l (m:List Sl) (s:Sl):Prop:=∃j,j < m.length∧at' m j=s
theorem Q7c {m:List Sl} {i k:Nat} {s:Sl} (hi:i < m.length) (hk:k < m.length) (hne:i≠k) (hfree:(at' m i).u=false) (hs:s.u=true):Q8l ((m.set i (at' m k)).set k sl0) s↔Q8l m s:=by
 have hl:((m.set i (at' m k)).set k sl0).length=m.length:=by rw [List.length_set,List.length_set]
 have hk':k < (m.set i (at' m k)).length:=by rw [List.length_set];exact hk
 constructor
 ·rintro ⟨j,hj,e⟩
  rw [hl] at hj
  by_cases hjk:k=j
  ·subst hjk
   rw [Q0Q _ hk'] at e
   rw [←e] at hs;cases hs
  ·rw [Q0z _ hjk] at e
   by_cases hji:i=j
   ·subst hji
    rw [Q0Q _ hi] at e
    exact ⟨k,hk,e⟩
   ·rw [Q0z _ hji] at e
    exact ⟨j,hj,e⟩
 ·rintro ⟨j,hj,e⟩
  by_cases hji:i=j
  ·subst hji
   rw [e,hs] at hfree;cases hfree
  ·by_cases hjk:k=j
   ·subst hjk
    exact ⟨i,by rw [hl];exact hi,by rw [Q0z _ (fun h=> hne h.symm),Q0Q _ hi];exact e⟩
   ·exact ⟨j,by rw [hl];exact hj,by rw [Q0z _ hjk,Q0z _ hji];exact e⟩
theorem Q4s {n:Nat} {R:List Sl} {s:Sl} (hs:s.u=true):∀(g:Nat) (m:List Sl) (i k:Nat),DropInv n R g m i k→(Q8l R s↔Q8l m s)
 |g,m,i,k,hD=> by
  have hlen:=hD.len
  have hi:=hD.hi
  have hkl:=hD.hk
  cases hu:(m.getD k sl0).u with
  |false=> rw [←hD.done hu]
  |true=>
   cases hm':Q2D n m i k with
   |true=>
    obtain ⟨hg,hN⟩:=hD.move hu hm'
    obtain ⟨g',rfl⟩:∃g',g=g'+1:=⟨g - 1,by omega⟩
    have hne:i≠k:=fun e=> by have h:=hD.free;rw [e,hu] at h;cases h
    exact (Q4s hs g' _ _ _ hN).trans (Q7c (by omega) (by omega) hne hD.free hs)
   |false=>
    obtain ⟨hg,hN⟩:=hD.stay hu hm'
    obtain ⟨g',rfl⟩:∃g',g=g'+1:=⟨g - 1,by omega⟩
    exact Q4s hs g' _ _ _ hN
theorem Q65 {l:List Sl} {i:Nat} (h:Q0b l=true) (hi:i < l.length) {s:Sl} (hs:s.u=true):Q8l (Q1j l i) s↔∃j,j < l.length∧j≠i∧at' l j=s:=by
 rw [Q4s hs _ _ _ _ (DropInv.start (Q0d.1 h).2.1 hi (Q1s h))]
 constructor
 ·rintro ⟨j,hj,e⟩
  rw [List.length_set] at hj
  by_cases hji:i=j
  ·subst hji
   rw [Q0Q _ hi] at e
   rw [←e] at hs;cases hs
  ·rw [Q0z _ hji] at e
   exact ⟨j,hj,fun h=> hji h.symm,e⟩
 ·rintro ⟨j,hj,hne,e⟩
  exact ⟨j,by rw [List.length_set];exact hj,by rw [Q0z _ (fun h=> hne h.symm)];exact e⟩
theorem Q80 {l:List Sl} (h:Q0b l=true) {a p:Int} {s:Sl}:((Q0m l a p).2=true∧Q5B l a p=s)↔(Q8l l s∧s.u=true∧s.a=a∧s.p=p):=by
 have hn:=(Q0d.1 h).1
 constructor
 ·rintro ⟨h1,h2⟩
  rcases Q0C l (by omega) a p with e|⟨k,hk,⟨e,_⟩|⟨e,hu,ha,hp⟩⟩
  ·rw [e] at h1;cases h1
  ·rw [e] at h1;cases h1
  ·unfold Q5B at h2
   rw [e,if_pos rfl] at h2
   have h3:at' l k=s:=by simpa [at'] using h2
   subst h3
   exact ⟨⟨k,hk,rfl⟩,hu,ha,hp⟩
 ·rintro ⟨⟨j,hj,rfl⟩,hu,ha,hp⟩
  have e:=(Q2L h).2 ⟨hj,hu,ha,hp⟩
  refine ⟨by rw [e], ?_⟩
  unfold Q5B
  rw [e,if_pos rfl]
  simp [at']
theorem Q75 {l:List Sl} {a p:Int} {i:Nat} (h:Q0b l=true) (e:Q0m l a p=((i:Int),true)):(Q0m (Q1j l i) a p).2=false:=by
 obtain ⟨hi,hu,ha,hp⟩:=(Q2L h).1 e
 cases hf:(Q0m (Q1j l i) a p).2 with
 |false=> rfl
 |true=>
  obtain ⟨h1,h2,h3,h4⟩:=(Q80 (Q42 h hi)).1 ⟨hf,rfl⟩
  obtain ⟨j,hj,hne,e2⟩:=(Q65 h hi h2).1 h1
  have e3:=(Q2L h (a:=a) (p:=p) (j:=j)).2 ⟨hj,by rw [e2];exact h2,by rw [e2];exact h3,by rw [e2];exact h4⟩
  rw [e] at e3
  injection e3 with e3 _
  exact absurd (by omega) hne
def Q14 (m:Am) (a p:Int):Bool:=Q0o m && Q0c a p && (Q0m m.c a p).2
def Q4n (m:Am) (a p:Int):Bool:=Q0o m && Q0c a p && (Q0m m.t a p).2
theorem Q2Z {m:Am} (h:Q0o m=true):0 < m.c.length∧0 < m.t.length:=by
 have h:=Q0A.1 h
 have h1:=(Q0d.1 h.2.2.2.2.1).1
 have h2:=(Q0d.1 h.2.2.2.2.2.1).1
 omega
theorem Q5j (v:Value) (m:Am) (a p:Int) (w:World) (hR:RdA w.heap.size w v m) (hpos:0 < m.c.length) (hfl:Q0c a p=true) (hf:m.c.length+m.t.length≤1048576):
  Calls Try.prog 34 #[v,Q2S a p] w fun e w'=> e=.returned (.bool (Q0m m.c a p).2)∧Below w.heap.size w w':=by
 obtain ⟨vc,vt,rfl,⟨oc,cc,rfl,rc⟩,⟨ot,ct,rfl,rt⟩⟩:=hR
 rcases rc with hr|⟨b,off,rfl,hbl,hcell⟩
 ·rw [hr] at hpos;simp at hpos
 have HC:=Q00 hcell
 clear hcell
 obtain ⟨W0,hW0⟩:∃W,((w.alloc (.cells #[.int .i64 m.id,.int .i64 m.lim,.bool m.dr,.slice (some ⟨b,off,none⟩) m.c.length cc,.slice ot m.t.length ct] 27)).alloc (.cells #[.int .i64 a,.int .i64 p] 29))=W:=⟨_,rfl⟩
 have hb_W0:Below w.heap.size w W0:=by rw [←hW0];exact (((Below.refl _ _).alloc (Kaq _) _).alloc (by simp <;> omega) _)
 have HB:=Q00 hb_W0
 clear hb_W0
 have zz:w.heap.size < W0.heap.size:=by rw [←hW0];simp <;> omega
 have z0:W0.cell? ⟨w.heap.size,0,none⟩=some (.int .i64 m.id):=by rw [←hW0];simp [go_sem]
 have z1:W0.cell? ⟨w.heap.size,1,none⟩=some (.int .i64 m.lim):=by rw [←hW0];simp [go_sem]
 have z2:W0.cell? ⟨w.heap.size,2,none⟩=some (.bool m.dr):=by rw [←hW0];simp [go_sem]
 have z3:W0.cell? ⟨w.heap.size,3,none⟩=some (.slice (some ⟨b,off,none⟩) m.c.length cc):=by rw [←hW0];simp [go_sem]
 have z4:W0.cell? ⟨w.heap.size,4,none⟩=some (.slice ot m.t.length ct):=by rw [←hW0];simp [go_sem]
 have zf:w.heap.size+1 < W0.heap.size:=by rw [←hW0];simp
 have f0:W0.cell? ⟨w.heap.size+1,0,none⟩=some (.int .i64 a):=by rw [←hW0];simp [go_sem]
 have f1:W0.cell? ⟨w.heap.size+1,1,none⟩=some (.int .i64 p):=by rw [←hW0];simp [go_sem]
 have H1:=Q00 (fun W (hb:Below w.heap.size w W)=> Q3D b off cc m.c a p W hpos (by omega) hfl (Kbq hbl hb.size) (fun i hi j hj=> (hb.cell (p:=⟨b,off+i * Q0e.k+j,none⟩) hbl).trans (HC.out i hi j hj)))
 clear rt HC
 generalize Q5B m.c a p=q at *
 generalize (Q0m m.c a p).2=tt at *
 go_enter Try.func34,Try.ntmps34
 go_wp2_with fail
 refine (H1.out W0 HB.out).mono ?_
 rintro e v1 ⟨rfl,hb⟩
 replace z0:v1.cell? ⟨w.heap.size,0,none⟩=some (.int .i64 m.id):=(hb.cell (p:=⟨w.heap.size,0,none⟩) zz).trans z0
 replace z1:v1.cell? ⟨w.heap.size,1,none⟩=some (.int .i64 m.lim):=(hb.cell (p:=⟨w.heap.size,1,none⟩) zz).trans z1
 replace z2:v1.cell? ⟨w.heap.size,2,none⟩=some (.bool m.dr):=(hb.cell (p:=⟨w.heap.size,2,none⟩) zz).trans z2
 replace z3:v1.cell? ⟨w.heap.size,3,none⟩=some (.slice (some ⟨b,off,none⟩) m.c.length cc):=(hb.cell (p:=⟨w.heap.size,3,none⟩) zz).trans z3
 replace z4:v1.cell? ⟨w.heap.size,4,none⟩=some (.slice ot m.t.length ct):=(hb.cell (p:=⟨w.heap.size,4,none⟩) zz).trans z4
 replace zz:w.heap.size < v1.heap.size:=Kbq zz hb.size
 replace f0:v1.cell? ⟨w.heap.size+1,0,none⟩=some (.int .i64 a):=(hb.cell (p:=⟨w.heap.size+1,0,none⟩) zf).trans f0
 replace f1:v1.cell? ⟨w.heap.size+1,1,none⟩=some (.int .i64 p):=(hb.cell (p:=⟨w.heap.size+1,1,none⟩) zf).trans f1
 replace zf:w.heap.size+1 < v1.heap.size:=Kbq zf hb.size
 replace HB:=Q00 (HB.out.trans (hb.mono HB.out.size))
 clear hb
 obtain ⟨W2,hW2⟩:∃W,(v1.alloc (.cells #[.bool q.u,.int .i64 q.a,.int .i64 q.p,.int .i64 q.v,.int .i64 q.t] 84))=W:=⟨_,rfl⟩
 have hb_W2:Below v1.heap.size v1 W2:=by rw [←hW2];exact ((Below.refl _ _).alloc (Kaq _) _)
 replace z0:W2.cell? ⟨w.heap.size,0,none⟩=some (.int .i64 m.id):=(hb_W2.cell (p:=⟨w.heap.size,0,none⟩) zz).trans z0
 replace z1:W2.cell? ⟨w.heap.size,1,none⟩=some (.int .i64 m.lim):=(hb_W2.cell (p:=⟨w.heap.size,1,none⟩) zz).trans z1
 replace z2:W2.cell? ⟨w.heap.size,2,none⟩=some (.bool m.dr):=(hb_W2.cell (p:=⟨w.heap.size,2,none⟩) zz).trans z2
 replace z3:W2.cell? ⟨w.heap.size,3,none⟩=some (.slice (some ⟨b,off,none⟩) m.c.length cc):=(hb_W2.cell (p:=⟨w.heap.size,3,none⟩) zz).trans z3
 replace z4:W2.cell? ⟨w.heap.size,4,none⟩=some (.slice ot m.t.length ct):=(hb_W2.cell (p:=⟨w.heap.size,4,none⟩) zz).trans z4
 replace zz:w.heap.size < W2.heap.size:=Kbq zz hb_W2.size
 replace f0:W2.cell? ⟨w.heap.size+1,0,none⟩=some (.int .i64 a):=(hb_W2.cell (p:=⟨w.heap.size+1,0,none⟩) zf).trans f0
 replace f1:W2.cell? ⟨w.heap.size+1,1,none⟩=some (.int .i64 p):=(hb_W2.cell (p:=⟨w.heap.size+1,1,none⟩) zf).trans f1
 replace zf:w.heap.size+1 < W2.heap.size:=Kbq zf hb_W2.size
 replace HB:=Q00 (HB.out.trans (hb_W2.mono HB.out.size))
 clear hb_W2
 have zs:v1.heap.size < W2.heap.size:=by rw [←hW2];simp
 have s0:W2.cell? ⟨v1.heap.size,0,none⟩=some (.bool q.u):=by rw [←hW2];simp [go_sem]
 have s1:W2.cell? ⟨v1.heap.size,1,none⟩=some (.int .i64 q.a):=by rw [←hW2];simp [go_sem]
 have s2:W2.cell? ⟨v1.heap.size,2,none⟩=some (.int .i64 q.p):=by rw [←hW2];simp [go_sem]
 have s3:W2.cell? ⟨v1.heap.size,3,none⟩=some (.int .i64 q.v):=by rw [←hW2];simp [go_sem]
 have s4:W2.cell? ⟨v1.heap.size,4,none⟩=some (.int .i64 q.t):=by rw [←hW2];simp [go_sem]
 go_wp2
 go_ret
 exact ⟨rfl,HB.out⟩
theorem Q4H (v:Value) (m:Am) (a p:Int) (w:World) (hR:RdA w.heap.size w v m) (hf:m.c.length+m.t.length≤1048576):
  Calls Try.prog 8 #[v,Q2S a p] w fun e w'=> e=.returned (.bool (Q14 m a p))∧Below w.heap.size w w':=by
 have hR0:=hR
 obtain ⟨vc,vt,rfl,⟨oc,cc,rfl,rc⟩,⟨ot,ct,rfl,rt⟩⟩:=hR0
 obtain ⟨W0,hW0⟩:∃W,((w.alloc (.cells #[.int .i64 m.id,.int .i64 m.lim,.bool m.dr,.slice oc m.c.length cc,.slice ot m.t.length ct] 27)).alloc (.cells #[.int .i64 a,.int .i64 p] 29))=W:=⟨_,rfl⟩
 have hb_W0:Below w.heap.size w W0:=by rw [←hW0];exact (((Below.refl _ _).alloc (Kaq _) _).alloc (by simp <;> omega) _)
 have HB:=Q00 hb_W0
 clear hb_W0
 have zz:w.heap.size < W0.heap.size:=by rw [←hW0];simp <;> omega
 have z0:W0.cell? ⟨w.heap.size,0,none⟩=some (.int .i64 m.id):=by rw [←hW0];simp [go_sem]
 have z1:W0.cell? ⟨w.heap.size,1,none⟩=some (.int .i64 m.lim):=by rw [←hW0];simp [go_sem]
 have z2:W0.cell? ⟨w.heap.size,2,none⟩=some (.bool m.dr):=by rw [←hW0];simp [go_sem]
 have z3:W0.cell? ⟨w.heap.size,3,none⟩=some (.slice oc m.c.length cc):=by rw [←hW0];simp [go_sem]
 have z4:W0.cell? ⟨w.heap.size,4,none⟩=some (.slice ot m.t.length ct):=by rw [←hW0];simp [go_sem]
 have zf:w.heap.size+1 < W0.heap.size:=by rw [←hW0];simp
 have f0:W0.cell? ⟨w.heap.size+1,0,none⟩=some (.int .i64 a):=by rw [←hW0];simp [go_sem]
 have f1:W0.cell? ⟨w.heap.size+1,1,none⟩=some (.int .i64 p):=by rw [←hW0];simp [go_sem]
 have HOK:=Q00 (Q3W _ m W0 ((hR.kept HB.out (Kaq _)).le HB.out.size) hf)
 have hfo:=fun W=> Q2u a p W
 have HE:=Q00 (show Q14 m a p=(Q0o m && Q0c a p && (Q0m m.c a p).2) from rfl)
 have HP:=Q00 (fun h=> Q2Z (m:=m) h)
 clear rc rt
 cases hT:Q0o m with
 |false=>
  rw [hT] at HOK HE
  clear hT hfo
  go_enter Try.func8,Try.ntmps8
  go_wp2_with fail
  refine (HOK.out).mono ?_
  rintro e v1 ⟨rfl,hb⟩
  replace z0:v1.cell? ⟨w.heap.size,0,none⟩=some (.int .i64 m.id):=(hb.cell (p:=⟨w.heap.size,0,none⟩) zz).trans z0
  replace z1:v1.cell? ⟨w.heap.size,1,none⟩=some (.int .i64 m.lim):=(hb.cell (p:=⟨w.heap.size,1,none⟩) zz).trans z1
  replace z2:v1.cell? ⟨w.heap.size,2,none⟩=some (.bool m.dr):=(hb.cell (p:=⟨w.heap.size,2,none⟩) zz).trans z2
  replace z3:v1.cell? ⟨w.heap.size,3,none⟩=some (.slice oc m.c.length cc):=(hb.cell (p:=⟨w.heap.size,3,none⟩) zz).trans z3
  replace z4:v1.cell? ⟨w.heap.size,4,none⟩=some (.slice ot m.t.length ct):=(hb.cell (p:=⟨w.heap.size,4,none⟩) zz).trans z4
  replace zz:w.heap.size < v1.heap.size:=Kbq zz hb.size
  replace f0:v1.cell? ⟨w.heap.size+1,0,none⟩=some (.int .i64 a):=(hb.cell (p:=⟨w.heap.size+1,0,none⟩) zf).trans f0
  replace f1:v1.cell? ⟨w.heap.size+1,1,none⟩=some (.int .i64 p):=(hb.cell (p:=⟨w.heap.size+1,1,none⟩) zf).trans f1
  replace zf:w.heap.size+1 < v1.heap.size:=Kbq zf hb.size
  replace HB:=Q00 (HB.out.trans (hb.mono HB.out.size))
  clear hb
  go_wp2
  go_ret
  exact ⟨by rw [HE.out];rfl,HB.out⟩
 |true=>
  have hpos:=(HP.out hT).1
  rw [hT] at HOK HE
  clear hT HP
  cases hF:Q0c a p with
  |false=>
   rw [hF] at hfo HE
   clear hF
   go_enter Try.func8,Try.ntmps8
   go_wp2_with fail
   refine (HOK.out).mono ?_
   rintro e v1 ⟨rfl,hb⟩
   replace z0:v1.cell? ⟨w.heap.size,0,none⟩=some (.int .i64 m.id):=(hb.cell (p:=⟨w.heap.size,0,none⟩) zz).trans z0
   replace z1:v1.cell? ⟨w.heap.size,1,none⟩=some (.int .i64 m.lim):=(hb.cell (p:=⟨w.heap.size,1,none⟩) zz).trans z1
   replace z2:v1.cell? ⟨w.heap.size,2,none⟩=some (.bool m.dr):=(hb.cell (p:=⟨w.heap.size,2,none⟩) zz).trans z2
   replace z3:v1.cell? ⟨w.heap.size,3,none⟩=some (.slice oc m.c.length cc):=(hb.cell (p:=⟨w.heap.size,3,none⟩) zz).trans z3
   replace z4:v1.cell? ⟨w.heap.size,4,none⟩=some (.slice ot m.t.length ct):=(hb.cell (p:=⟨w.heap.size,4,none⟩) zz).trans z4
   replace zz:w.heap.size < v1.heap.size:=Kbq zz hb.size
   replace f0:v1.cell? ⟨w.heap.size+1,0,none⟩=some (.int .i64 a):=(hb.cell (p:=⟨w.heap.size+1,0,none⟩) zf).trans f0
   replace f1:v1.cell? ⟨w.heap.size+1,1,none⟩=some (.int .i64 p):=(hb.cell (p:=⟨w.heap.size+1,1,none⟩) zf).trans f1
   replace zf:w.heap.size+1 < v1.heap.size:=Kbq zf hb.size
   replace HB:=Q00 (HB.out.trans (hb.mono HB.out.size))
   clear hb
   go_wp2_with fail
   refine (hfo _).mono ?_
   rintro e v2 ⟨rfl,hb⟩
   replace z0:v2.cell? ⟨w.heap.size,0,none⟩=some (.int .i64 m.id):=(hb.cell (p:=⟨w.heap.size,0,none⟩) zz).trans z0
   replace z1:v2.cell? ⟨w.heap.size,1,none⟩=some (.int .i64 m.lim):=(hb.cell (p:=⟨w.heap.size,1,none⟩) zz).trans z1
   replace z2:v2.cell? ⟨w.heap.size,2,none⟩=some (.bool m.dr):=(hb.cell (p:=⟨w.heap.size,2,none⟩) zz).trans z2
   replace z3:v2.cell? ⟨w.heap.size,3,none⟩=some (.slice oc m.c.length cc):=(hb.cell (p:=⟨w.heap.size,3,none⟩) zz).trans z3
   replace z4:v2.cell? ⟨w.heap.size,4,none⟩=some (.slice ot m.t.length ct):=(hb.cell (p:=⟨w.heap.size,4,none⟩) zz).trans z4
   replace zz:w.heap.size < v2.heap.size:=Kbq zz hb.size
   replace f0:v2.cell? ⟨w.heap.size+1,0,none⟩=some (.int .i64 a):=(hb.cell (p:=⟨w.heap.size+1,0,none⟩) zf).trans f0
   replace f1:v2.cell? ⟨w.heap.size+1,1,none⟩=some (.int .i64 p):=(hb.cell (p:=⟨w.heap.size+1,1,none⟩) zf).trans f1
   replace zf:w.heap.size+1 < v2.heap.size:=Kbq zf hb.size
   replace HB:=Q00 (HB.out.trans (hb.mono HB.out.size))
   clear hb
   go_wp2
   go_ret
   exact ⟨by rw [HE.out];rfl,HB.out⟩
  |true=>
   have HF:=Q00 hF
   rw [hF] at hfo HE
   clear hF
   go_enter Try.func8,Try.ntmps8
   go_wp2_with fail
   refine (HOK.out).mono ?_
   rintro e v1 ⟨rfl,hb⟩
   replace z0:v1.cell? ⟨w.heap.size,0,none⟩=some (.int .i64 m.id):=(hb.cell (p:=⟨w.heap.size,0,none⟩) zz).trans z0
   replace z1:v1.cell? ⟨w.heap.size,1,none⟩=some (.int .i64 m.lim):=(hb.cell (p:=⟨w.heap.size,1,none⟩) zz).trans z1
   replace z2:v1.cell? ⟨w.heap.size,2,none⟩=some (.bool m.dr):=(hb.cell (p:=⟨w.heap.size,2,none⟩) zz).trans z2
   replace z3:v1.cell? ⟨w.heap.size,3,none⟩=some (.slice oc m.c.length cc):=(hb.cell (p:=⟨w.heap.size,3,none⟩) zz).trans z3
   replace z4:v1.cell? ⟨w.heap.size,4,none⟩=some (.slice ot m.t.length ct):=(hb.cell (p:=⟨w.heap.size,4,none⟩) zz).trans z4
   replace zz:w.heap.size < v1.heap.size:=Kbq zz hb.size
   replace f0:v1.cell? ⟨w.heap.size+1,0,none⟩=some (.int .i64 a):=(hb.cell (p:=⟨w.heap.size+1,0,none⟩) zf).trans f0
   replace f1:v1.cell? ⟨w.heap.size+1,1,none⟩=some (.int .i64 p):=(hb.cell (p:=⟨w.heap.size+1,1,none⟩) zf).trans f1
   replace zf:w.heap.size+1 < v1.heap.size:=Kbq zf hb.size
   replace HB:=Q00 (HB.out.trans (hb.mono HB.out.size))
   clear hb
   go_wp2_with fail
   refine (hfo _).mono ?_
   rintro e v2 ⟨rfl,hb⟩
   replace z0:v2.cell? ⟨w.heap.size,0,none⟩=some (.int .i64 m.id):=(hb.cell (p:=⟨w.heap.size,0,none⟩) zz).trans z0
   replace z1:v2.cell? ⟨w.heap.size,1,none⟩=some (.int .i64 m.lim):=(hb.cell (p:=⟨w.heap.size,1,none⟩) zz).trans z1
   replace z2:v2.cell? ⟨w.heap.size,2,none⟩=some (.bool m.dr):=(hb.cell (p:=⟨w.heap.size,2,none⟩) zz).trans z2
   replace z3:v2.cell? ⟨w.heap.size,3,none⟩=some (.slice oc m.c.length cc):=(hb.cell (p:=⟨w.heap.size,3,none⟩) zz).trans z3
   replace z4:v2.cell? ⟨w.heap.size,4,none⟩=some (.slice ot m.t.length ct):=(hb.cell (p:=⟨w.heap.size,4,none⟩) zz).trans z4
   replace zz:w.heap.size < v2.heap.size:=Kbq zz hb.size
   replace f0:v2.cell? ⟨w.heap.size+1,0,none⟩=some (.int .i64 a):=(hb.cell (p:=⟨w.heap.size+1,0,none⟩) zf).trans f0
   replace f1:v2.cell? ⟨w.heap.size+1,1,none⟩=some (.int .i64 p):=(hb.cell (p:=⟨w.heap.size+1,1,none⟩) zf).trans f1
   replace zf:w.heap.size+1 < v2.heap.size:=Kbq zf hb.size
   replace HB:=Q00 (HB.out.trans (hb.mono HB.out.size))
   clear hb
   go_wp2_with fail
   refine (Q5j _ m a p v2 ((hR.kept HB.out (Kaq _)).le HB.out.size) hpos HF.out hf).mono ?_
   rintro e v3 ⟨rfl,hb⟩
   replace z0:v3.cell? ⟨w.heap.size,0,none⟩=some (.int .i64 m.id):=(hb.cell (p:=⟨w.heap.size,0,none⟩) zz).trans z0
   replace z1:v3.cell? ⟨w.heap.size,1,none⟩=some (.int .i64 m.lim):=(hb.cell (p:=⟨w.heap.size,1,none⟩) zz).trans z1
   replace z2:v3.cell? ⟨w.heap.size,2,none⟩=some (.bool m.dr):=(hb.cell (p:=⟨w.heap.size,2,none⟩) zz).trans z2
   replace z3:v3.cell? ⟨w.heap.size,3,none⟩=some (.slice oc m.c.length cc):=(hb.cell (p:=⟨w.heap.size,3,none⟩) zz).trans z3
   replace z4:v3.cell? ⟨w.heap.size,4,none⟩=some (.slice ot m.t.length ct):=(hb.cell (p:=⟨w.heap.size,4,none⟩) zz).trans z4
   replace zz:w.heap.size < v3.heap.size:=Kbq zz hb.size
   replace f0:v3.cell? ⟨w.heap.size+1,0,none⟩=some (.int .i64 a):=(hb.cell (p:=⟨w.heap.size+1,0,none⟩) zf).trans f0
   replace f1:v3.cell? ⟨w.heap.size+1,1,none⟩=some (.int .i64 p):=(hb.cell (p:=⟨w.heap.size+1,1,none⟩) zf).trans f1
   replace zf:w.heap.size+1 < v3.heap.size:=Kbq zf hb.size
   replace HB:=Q00 (HB.out.trans (hb.mono HB.out.size))
   clear hb
   generalize (Q0m m.c a p).2=tt at *
   go_wp2
   go_ret
   exact ⟨by rw [HE.out];simp,HB.out⟩
theorem Q3j (b off c:Nat) (l:List Sl) (a p:Int) (w:World) (hpos:0 < l.length) (hl:l.length≤1048576) (hfl:Q0c a p=true) (hbl:b < w.heap.size) (hcell:∀i,i < l.length→∀j,j < Q0e.k→w.cell? ⟨b,off+i * Q0e.k+j,none⟩=(Q0e.cs (l.getD i Q0e.d))[j]?):
  Calls Try.prog 36 #[.agg #[.slice (some ⟨b,off,none⟩) l.length c],Q2S a p] w fun e w'=> e=.returned (.bool (Q0m l a p).2)∧Below w.heap.size w w':=by
 have HC:=Q00 hcell
 clear hcell
 obtain ⟨W0,hW0⟩:∃W,((w.alloc (.cells #[.slice (some ⟨b,off,none⟩) l.length c] 65)).alloc (.cells #[.int .i64 a,.int .i64 p] 29))=W:=⟨_,rfl⟩
 have hb_W0:Below w.heap.size w W0:=by rw [←hW0];exact (((Below.refl _ _).alloc (Kaq _) _).alloc (by simp <;> omega) _)
 have HB:=Q00 hb_W0
 clear hb_W0
 have zz:w.heap.size < W0.heap.size:=by rw [←hW0];simp <;> omega
 have z0:W0.cell? ⟨w.heap.size,0,none⟩=some (.slice (some ⟨b,off,none⟩) l.length c):=by rw [←hW0];simp [go_sem]
 have zf:w.heap.size+1 < W0.heap.size:=by rw [←hW0];simp
 have f0:W0.cell? ⟨w.heap.size+1,0,none⟩=some (.int .i64 a):=by rw [←hW0];simp [go_sem]
 have f1:W0.cell? ⟨w.heap.size+1,1,none⟩=some (.int .i64 p):=by rw [←hW0];simp [go_sem]
 have H1:=Q00 (fun W (hb:Below w.heap.size w W)=> Q74 b off c l a p W hpos hl hfl (Kbq hbl hb.size) (fun i hi j hj=> (hb.cell (p:=⟨b,off+i * Q0e.k+j,none⟩) hbl).trans (HC.out i hi j hj)))
 clear HC
 generalize Q5B l a p=q at *
 generalize (Q0m l a p).2=tt at *
 go_enter Try.func36,Try.ntmps36
 go_wp2_with fail
 refine (H1.out W0 HB.out).mono ?_
 rintro e v1 ⟨rfl,hb⟩
 replace z0:v1.cell? ⟨w.heap.size,0,none⟩=some (.slice (some ⟨b,off,none⟩) l.length c):=(hb.cell (p:=⟨w.heap.size,0,none⟩) zz).trans z0
 replace zz:w.heap.size < v1.heap.size:=Kbq zz hb.size
 replace f0:v1.cell? ⟨w.heap.size+1,0,none⟩=some (.int .i64 a):=(hb.cell (p:=⟨w.heap.size+1,0,none⟩) zf).trans f0
 replace f1:v1.cell? ⟨w.heap.size+1,1,none⟩=some (.int .i64 p):=(hb.cell (p:=⟨w.heap.size+1,1,none⟩) zf).trans f1
 replace zf:w.heap.size+1 < v1.heap.size:=Kbq zf hb.size
 replace HB:=Q00 (HB.out.trans (hb.mono HB.out.size))
 clear hb
 obtain ⟨W2,hW2⟩:∃W,(v1.alloc (.cells #[.bool q.u,.int .i64 q.a,.int .i64 q.p,.int .i64 q.v,.int .i64 q.t] 102))=W:=⟨_,rfl⟩
 have hb_W2:Below v1.heap.size v1 W2:=by rw [←hW2];exact ((Below.refl _ _).alloc (Kaq _) _)
 replace z0:W2.cell? ⟨w.heap.size,0,none⟩=some (.slice (some ⟨b,off,none⟩) l.length c):=(hb_W2.cell (p:=⟨w.heap.size,0,none⟩) zz).trans z0
 replace zz:w.heap.size < W2.heap.size:=Kbq zz hb_W2.size
 replace f0:W2.cell? ⟨w.heap.size+1,0,none⟩=some (.int .i64 a):=(hb_W2.cell (p:=⟨w.heap.size+1,0,none⟩) zf).trans f0
 replace f1:W2.cell? ⟨w.heap.size+1,1,none⟩=some (.int .i64 p):=(hb_W2.cell (p:=⟨w.heap.size+1,1,none⟩) zf).trans f1
 replace zf:w.heap.size+1 < W2.heap.size:=Kbq zf hb_W2.size
 replace HB:=Q00 (HB.out.trans (hb_W2.mono HB.out.size))
 clear hb_W2
 have zs:v1.heap.size < W2.heap.size:=by rw [←hW2];simp
 have s0:W2.cell? ⟨v1.heap.size,0,none⟩=some (.bool q.u):=by rw [←hW2];simp [go_sem]
 have s1:W2.cell? ⟨v1.heap.size,1,none⟩=some (.int .i64 q.a):=by rw [←hW2];simp [go_sem]
 have s2:W2.cell? ⟨v1.heap.size,2,none⟩=some (.int .i64 q.p):=by rw [←hW2];simp [go_sem]
 have s3:W2.cell? ⟨v1.heap.size,3,none⟩=some (.int .i64 q.v):=by rw [←hW2];simp [go_sem]
 have s4:W2.cell? ⟨v1.heap.size,4,none⟩=some (.int .i64 q.t):=by rw [←hW2];simp [go_sem]
 go_wp2
 go_ret
 exact ⟨rfl,HB.out⟩
theorem Q1r (b off c:Nat) (l:List Sl) (a p:Int) (w:World) (hpos:0 < l.length) (hl:l.length≤1048576) (hfl:Q0c a p=true) (hbl:b < w.heap.size) (hcell:∀i,i < l.length→∀j,j < Q0e.k→w.cell? ⟨b,off+i * Q0e.k+j,none⟩=(Q0e.cs (l.getD i Q0e.d))[j]?):
  Calls Try.prog 39 #[.agg #[.slice (some ⟨b,off,none⟩) l.length c],Q2S a p] w fun e w'=> e=.returned (.bool (Q0m l a p).2)∧Below w.heap.size w w':=by
 have HC:=Q00 hcell
 clear hcell
 obtain ⟨W0,hW0⟩:∃W,((w.alloc (.cells #[.slice (some ⟨b,off,none⟩) l.length c] 66)).alloc (.cells #[.int .i64 a,.int .i64 p] 29))=W:=⟨_,rfl⟩
 have hb_W0:Below w.heap.size w W0:=by rw [←hW0];exact (((Below.refl _ _).alloc (Kaq _) _).alloc (by simp <;> omega) _)
 have HB:=Q00 hb_W0
 clear hb_W0
 have zz:w.heap.size < W0.heap.size:=by rw [←hW0];simp <;> omega
 have z0:W0.cell? ⟨w.heap.size,0,none⟩=some (.slice (some ⟨b,off,none⟩) l.length c):=by rw [←hW0];simp [go_sem]
 have zf:w.heap.size+1 < W0.heap.size:=by rw [←hW0];simp
 have f0:W0.cell? ⟨w.heap.size+1,0,none⟩=some (.int .i64 a):=by rw [←hW0];simp [go_sem]
 have f1:W0.cell? ⟨w.heap.size+1,1,none⟩=some (.int .i64 p):=by rw [←hW0];simp [go_sem]
 have H1:=Q00 (fun W (hb:Below w.heap.size w W)=> Q74 b off c l a p W hpos hl hfl (Kbq hbl hb.size) (fun i hi j hj=> (hb.cell (p:=⟨b,off+i * Q0e.k+j,none⟩) hbl).trans (HC.out i hi j hj)))
 clear HC
 generalize Q5B l a p=q at *
 generalize (Q0m l a p).2=tt at *
 go_enter Try.func39,Try.ntmps39
 go_wp2_with fail
 refine (H1.out W0 HB.out).mono ?_
 rintro e v1 ⟨rfl,hb⟩
 replace z0:v1.cell? ⟨w.heap.size,0,none⟩=some (.slice (some ⟨b,off,none⟩) l.length c):=(hb.cell (p:=⟨w.heap.size,0,none⟩) zz).trans z0
 replace zz:w.heap.size < v1.heap.size:=Kbq zz hb.size
 replace f0:v1.cell? ⟨w.heap.size+1,0,none⟩=some (.int .i64 a):=(hb.cell (p:=⟨w.heap.size+1,0,none⟩) zf).trans f0
 replace f1:v1.cell? ⟨w.heap.size+1,1,none⟩=some (.int .i64 p):=(hb.cell (p:=⟨w.heap.size+1,1,none⟩) zf).trans f1
 replace zf:w.heap.size+1 < v1.heap.size:=Kbq zf hb.size
 replace HB:=Q00 (HB.out.trans (hb.mono HB.out.size))
 clear hb
 obtain ⟨W2,hW2⟩:∃W,(v1.alloc (.cells #[.bool q.u,.int .i64 q.a,.int .i64 q.p,.int .i64 q.v,.int .i64 q.t] 102))=W:=⟨_,rfl⟩
 have hb_W2:Below v1.heap.size v1 W2:=by rw [←hW2];exact ((Below.refl _ _).alloc (Kaq _) _)
 replace z0:W2.cell? ⟨w.heap.size,0,none⟩=some (.slice (some ⟨b,off,none⟩) l.length c):=(hb_W2.cell (p:=⟨w.heap.size,0,none⟩) zz).trans z0
 replace zz:w.heap.size < W2.heap.size:=Kbq zz hb_W2.size
 replace f0:W2.cell? ⟨w.heap.size+1,0,none⟩=some (.int .i64 a):=(hb_W2.cell (p:=⟨w.heap.size+1,0,none⟩) zf).trans f0
 replace f1:W2.cell? ⟨w.heap.size+1,1,none⟩=some (.int .i64 p):=(hb_W2.cell (p:=⟨w.heap.size+1,1,none⟩) zf).trans f1
 replace zf:w.heap.size+1 < W2.heap.size:=Kbq zf hb_W2.size
 replace HB:=Q00 (HB.out.trans (hb_W2.mono HB.out.size))
 clear hb_W2
 have zs:v1.heap.size < W2.heap.size:=by rw [←hW2];simp
 have s0:W2.cell? ⟨v1.heap.size,0,none⟩=some (.bool q.u):=by rw [←hW2];simp [go_sem]
 have s1:W2.cell? ⟨v1.heap.size,1,none⟩=some (.int .i64 q.a):=by rw [←hW2];simp [go_sem]
 have s2:W2.cell? ⟨v1.heap.size,2,none⟩=some (.int .i64 q.p):=by rw [←hW2];simp [go_sem]
 have s3:W2.cell? ⟨v1.heap.size,3,none⟩=some (.int .i64 q.v):=by rw [←hW2];simp [go_sem]
 have s4:W2.cell? ⟨v1.heap.size,4,none⟩=some (.int .i64 q.t):=by rw [←hW2];simp [go_sem]
 go_wp2
 go_ret
 exact ⟨rfl,HB.out⟩
theorem Q36 (v:Value) (m:Am) (a p:Int) (w:World) (hR:RdA w.heap.size w v m) (hf:m.c.length+m.t.length≤1048576):
  Calls Try.prog 10 #[v,Q2S a p] w fun e w'=> e=.returned (.bool (Q14 m a p))∧Below w.heap.size w w':=by
 have hR0:=hR
 obtain ⟨vc,vt,rfl,⟨oc,cc,rfl,rc⟩,⟨ot,ct,rfl,rt⟩⟩:=hR0
 obtain ⟨W0,hW0⟩:∃W,((w.alloc (.cells #[.int .i64 m.id,.int .i64 m.lim,.bool m.dr,.slice oc m.c.length cc,.slice ot m.t.length ct] 27)).alloc (.cells #[.int .i64 a,.int .i64 p] 29))=W:=⟨_,rfl⟩
 have hb_W0:Below w.heap.size w W0:=by rw [←hW0];exact (((Below.refl _ _).alloc (Kaq _) _).alloc (by simp <;> omega) _)
 have HB:=Q00 hb_W0
 clear hb_W0
 have zz:w.heap.size < W0.heap.size:=by rw [←hW0];simp <;> omega
 have z0:W0.cell? ⟨w.heap.size,0,none⟩=some (.int .i64 m.id):=by rw [←hW0];simp [go_sem]
 have z1:W0.cell? ⟨w.heap.size,1,none⟩=some (.int .i64 m.lim):=by rw [←hW0];simp [go_sem]
 have z2:W0.cell? ⟨w.heap.size,2,none⟩=some (.bool m.dr):=by rw [←hW0];simp [go_sem]
 have z3:W0.cell? ⟨w.heap.size,3,none⟩=some (.slice oc m.c.length cc):=by rw [←hW0];simp [go_sem]
 have z4:W0.cell? ⟨w.heap.size,4,none⟩=some (.slice ot m.t.length ct):=by rw [←hW0];simp [go_sem]
 have zf:w.heap.size+1 < W0.heap.size:=by rw [←hW0];simp
 have f0:W0.cell? ⟨w.heap.size+1,0,none⟩=some (.int .i64 a):=by rw [←hW0];simp [go_sem]
 have f1:W0.cell? ⟨w.heap.size+1,1,none⟩=some (.int .i64 p):=by rw [←hW0];simp [go_sem]
 have HOK:=Q00 (Q1m _ m W0 ((hR.kept HB.out (Kaq _)).le HB.out.size) hf)
 have hfo:=fun W=> Q0E a p W
 have HE:=Q00 (show Q14 m a p=(Q0o m && Q0c a p && (Q0m m.c a p).2) from rfl)
 have HP:=Q00 (fun h=> Q2Z (m:=m) h)
 clear rc rt
 cases hT:Q0o m with
 |false=>
  rw [hT] at HOK HE
  clear hT hfo
  go_enter Try.func10,Try.ntmps10
  go_wp2_with fail
  refine (HOK.out).mono ?_
  rintro e v1 ⟨s1,n1,k1,s2,n2,k2,i,l,d,rfl,hv,hb⟩
  clear hv
  replace z0:v1.cell? ⟨w.heap.size,0,none⟩=some (.int .i64 m.id):=(hb.cell (p:=⟨w.heap.size,0,none⟩) zz).trans z0
  replace z1:v1.cell? ⟨w.heap.size,1,none⟩=some (.int .i64 m.lim):=(hb.cell (p:=⟨w.heap.size,1,none⟩) zz).trans z1
  replace z2:v1.cell? ⟨w.heap.size,2,none⟩=some (.bool m.dr):=(hb.cell (p:=⟨w.heap.size,2,none⟩) zz).trans z2
  replace z3:v1.cell? ⟨w.heap.size,3,none⟩=some (.slice oc m.c.length cc):=(hb.cell (p:=⟨w.heap.size,3,none⟩) zz).trans z3
  replace z4:v1.cell? ⟨w.heap.size,4,none⟩=some (.slice ot m.t.length ct):=(hb.cell (p:=⟨w.heap.size,4,none⟩) zz).trans z4
  replace zz:w.heap.size < v1.heap.size:=Kbq zz hb.size
  replace f0:v1.cell? ⟨w.heap.size+1,0,none⟩=some (.int .i64 a):=(hb.cell (p:=⟨w.heap.size+1,0,none⟩) zf).trans f0
  replace f1:v1.cell? ⟨w.heap.size+1,1,none⟩=some (.int .i64 p):=(hb.cell (p:=⟨w.heap.size+1,1,none⟩) zf).trans f1
  replace zf:w.heap.size+1 < v1.heap.size:=Kbq zf hb.size
  replace HB:=Q00 (HB.out.trans (hb.mono HB.out.size))
  clear hb
  obtain ⟨W2,hW2⟩:∃W,(v1.alloc (.cells #[.slice s1 n1 k1,.slice s2 n2 k2,.int .i64 i,.int .i64 l,.bool d] 68))=W:=⟨_,rfl⟩
  have hb_W2:Below v1.heap.size v1 W2:=by rw [←hW2];exact ((Below.refl _ _).alloc (Kaq _) _)
  replace z0:W2.cell? ⟨w.heap.size,0,none⟩=some (.int .i64 m.id):=(hb_W2.cell (p:=⟨w.heap.size,0,none⟩) zz).trans z0
  replace z1:W2.cell? ⟨w.heap.size,1,none⟩=some (.int .i64 m.lim):=(hb_W2.cell (p:=⟨w.heap.size,1,none⟩) zz).trans z1
  replace z2:W2.cell? ⟨w.heap.size,2,none⟩=some (.bool m.dr):=(hb_W2.cell (p:=⟨w.heap.size,2,none⟩) zz).trans z2
  replace z3:W2.cell? ⟨w.heap.size,3,none⟩=some (.slice oc m.c.length cc):=(hb_W2.cell (p:=⟨w.heap.size,3,none⟩) zz).trans z3
  replace z4:W2.cell? ⟨w.heap.size,4,none⟩=some (.slice ot m.t.length ct):=(hb_W2.cell (p:=⟨w.heap.size,4,none⟩) zz).trans z4
  replace zz:w.heap.size < W2.heap.size:=Kbq zz hb_W2.size
  replace f0:W2.cell? ⟨w.heap.size+1,0,none⟩=some (.int .i64 a):=(hb_W2.cell (p:=⟨w.heap.size+1,0,none⟩) zf).trans f0
  replace f1:W2.cell? ⟨w.heap.size+1,1,none⟩=some (.int .i64 p):=(hb_W2.cell (p:=⟨w.heap.size+1,1,none⟩) zf).trans f1
  replace zf:w.heap.size+1 < W2.heap.size:=Kbq zf hb_W2.size
  replace HB:=Q00 (HB.out.trans (hb_W2.mono HB.out.size))
  clear hb_W2
  have zo:v1.heap.size < W2.heap.size:=by rw [←hW2];simp
  have o0:W2.cell? ⟨v1.heap.size,0,none⟩=some (.slice s1 n1 k1):=by rw [←hW2];simp [go_sem]
  have o1:W2.cell? ⟨v1.heap.size,1,none⟩=some (.slice s2 n2 k2):=by rw [←hW2];simp [go_sem]
  have o2:W2.cell? ⟨v1.heap.size,2,none⟩=some (.int .i64 i):=by rw [←hW2];simp [go_sem]
  have o3:W2.cell? ⟨v1.heap.size,3,none⟩=some (.int .i64 l):=by rw [←hW2];simp [go_sem]
  have o4:W2.cell? ⟨v1.heap.size,4,none⟩=some (.bool d):=by rw [←hW2];simp [go_sem]
  go_wp2
  go_ret
  exact ⟨by rw [HE.out];rfl,HB.out⟩
 |true=>
  have hpos:=(HP.out hT).1
  rw [hT] at HOK HE
  clear hT HP
  cases hF:Q0c a p with
  |false=>
   rw [hF] at hfo HE
   clear hF
   go_enter Try.func10,Try.ntmps10
   go_wp2_with fail
   refine (HOK.out).mono ?_
   rintro e v1 ⟨s1,n1,k1,s2,n2,k2,i,l,d,rfl,hv,hb⟩
   clear hv
   replace z0:v1.cell? ⟨w.heap.size,0,none⟩=some (.int .i64 m.id):=(hb.cell (p:=⟨w.heap.size,0,none⟩) zz).trans z0
   replace z1:v1.cell? ⟨w.heap.size,1,none⟩=some (.int .i64 m.lim):=(hb.cell (p:=⟨w.heap.size,1,none⟩) zz).trans z1
   replace z2:v1.cell? ⟨w.heap.size,2,none⟩=some (.bool m.dr):=(hb.cell (p:=⟨w.heap.size,2,none⟩) zz).trans z2
   replace z3:v1.cell? ⟨w.heap.size,3,none⟩=some (.slice oc m.c.length cc):=(hb.cell (p:=⟨w.heap.size,3,none⟩) zz).trans z3
   replace z4:v1.cell? ⟨w.heap.size,4,none⟩=some (.slice ot m.t.length ct):=(hb.cell (p:=⟨w.heap.size,4,none⟩) zz).trans z4
   replace zz:w.heap.size < v1.heap.size:=Kbq zz hb.size
   replace f0:v1.cell? ⟨w.heap.size+1,0,none⟩=some (.int .i64 a):=(hb.cell (p:=⟨w.heap.size+1,0,none⟩) zf).trans f0
   replace f1:v1.cell? ⟨w.heap.size+1,1,none⟩=some (.int .i64 p):=(hb.cell (p:=⟨w.heap.size+1,1,none⟩) zf).trans f1
   replace zf:w.heap.size+1 < v1.heap.size:=Kbq zf hb.size
   replace HB:=Q00 (HB.out.trans (hb.mono HB.out.size))
   clear hb
   obtain ⟨W2,hW2⟩:∃W,(v1.alloc (.cells #[.slice s1 n1 k1,.slice s2 n2 k2,.int .i64 i,.int .i64 l,.bool d] 68))=W:=⟨_,rfl⟩
   have hb_W2:Below v1.heap.size v1 W2:=by rw [←hW2];exact ((Below.refl _ _).alloc (Kaq _) _)
   replace z0:W2.cell? ⟨w.heap.size,0,none⟩=some (.int .i64 m.id):=(hb_W2.cell (p:=⟨w.heap.size,0,none⟩) zz).trans z0
   replace z1:W2.cell? ⟨w.heap.size,1,none⟩=some (.int .i64 m.lim):=(hb_W2.cell (p:=⟨w.heap.size,1,none⟩) zz).trans z1
   replace z2:W2.cell? ⟨w.heap.size,2,none⟩=some (.bool m.dr):=(hb_W2.cell (p:=⟨w.heap.size,2,none⟩) zz).trans z2
   replace z3:W2.cell? ⟨w.heap.size,3,none⟩=some (.slice oc m.c.length cc):=(hb_W2.cell (p:=⟨w.heap.size,3,none⟩) zz).trans z3
   replace z4:W2.cell? ⟨w.heap.size,4,none⟩=some (.slice ot m.t.length ct):=(hb_W2.cell (p:=⟨w.heap.size,4,none⟩) zz).trans z4
   replace zz:w.heap.size < W2.heap.size:=Kbq zz hb_W2.size
   replace f0:W2.cell? ⟨w.heap.size+1,0,none⟩=some (.int .i64 a):=(hb_W2.cell (p:=⟨w.heap.size+1,0,none⟩) zf).trans f0
   replace f1:W2.cell? ⟨w.heap.size+1,1,none⟩=some (.int .i64 p):=(hb_W2.cell (p:=⟨w.heap.size+1,1,none⟩) zf).trans f1
   replace zf:w.heap.size+1 < W2.heap.size:=Kbq zf hb_W2.size
   replace HB:=Q00 (HB.out.trans (hb_W2.mono HB.out.size))
   clear hb_W2
   have zo:v1.heap.size < W2.heap.size:=by rw [←hW2];simp
   have o0:W2.cell? ⟨v1.heap.size,0,none⟩=some (.slice s1 n1 k1):=by rw [←hW2];simp [go_sem]
   have o1:W2.cell? ⟨v1.heap.size,1,none⟩=some (.slice s2 n2 k2):=by rw [←hW2];simp [go_sem]
   have o2:W2.cell? ⟨v1.heap.size,2,none⟩=some (.int .i64 i):=by rw [←hW2];simp [go_sem]
   have o3:W2.cell? ⟨v1.heap.size,3,none⟩=some (.int .i64 l):=by rw [←hW2];simp [go_sem]
   have o4:W2.cell? ⟨v1.heap.size,4,none⟩=some (.bool d):=by rw [←hW2];simp [go_sem]
   go_wp2_with fail
   refine (hfo _).mono ?_
   rintro e v2 ⟨rfl,hb⟩
   replace z0:v2.cell? ⟨w.heap.size,0,none⟩=some (.int .i64 m.id):=(hb.cell (p:=⟨w.heap.size,0,none⟩) zz).trans z0
   replace z1:v2.cell? ⟨w.heap.size,1,none⟩=some (.int .i64 m.lim):=(hb.cell (p:=⟨w.heap.size,1,none⟩) zz).trans z1
   replace z2:v2.cell? ⟨w.heap.size,2,none⟩=some (.bool m.dr):=(hb.cell (p:=⟨w.heap.size,2,none⟩) zz).trans z2
   replace z3:v2.cell? ⟨w.heap.size,3,none⟩=some (.slice oc m.c.length cc):=(hb.cell (p:=⟨w.heap.size,3,none⟩) zz).trans z3
   replace z4:v2.cell? ⟨w.heap.size,4,none⟩=some (.slice ot m.t.length ct):=(hb.cell (p:=⟨w.heap.size,4,none⟩) zz).trans z4
   replace zz:w.heap.size < v2.heap.size:=Kbq zz hb.size
   replace f0:v2.cell? ⟨w.heap.size+1,0,none⟩=some (.int .i64 a):=(hb.cell (p:=⟨w.heap.size+1,0,none⟩) zf).trans f0
   replace f1:v2.cell? ⟨w.heap.size+1,1,none⟩=some (.int .i64 p):=(hb.cell (p:=⟨w.heap.size+1,1,none⟩) zf).trans f1
   replace zf:w.heap.size+1 < v2.heap.size:=Kbq zf hb.size
   replace o0:v2.cell? ⟨v1.heap.size,0,none⟩=some (.slice s1 n1 k1):=(hb.cell (p:=⟨v1.heap.size,0,none⟩) zo).trans o0
   replace o1:v2.cell? ⟨v1.heap.size,1,none⟩=some (.slice s2 n2 k2):=(hb.cell (p:=⟨v1.heap.size,1,none⟩) zo).trans o1
   replace o2:v2.cell? ⟨v1.heap.size,2,none⟩=some (.int .i64 i):=(hb.cell (p:=⟨v1.heap.size,2,none⟩) zo).trans o2
   replace o3:v2.cell? ⟨v1.heap.size,3,none⟩=some (.int .i64 l):=(hb.cell (p:=⟨v1.heap.size,3,none⟩) zo).trans o3
   replace o4:v2.cell? ⟨v1.heap.size,4,none⟩=some (.bool d):=(hb.cell (p:=⟨v1.heap.size,4,none⟩) zo).trans o4
   replace zo:v1.heap.size < v2.heap.size:=Kbq zo hb.size
   replace HB:=Q00 (HB.out.trans (hb.mono HB.out.size))
   clear hb
   go_wp2
   go_ret
   exact ⟨by rw [HE.out];rfl,HB.out⟩
  |true=>
   have HF:=Q00 hF
   rw [hF] at hfo HE
   clear hF
   go_enter Try.func10,Try.ntmps10
   go_wp2_with fail
   refine (HOK.out).mono ?_
   rintro e v1 ⟨s1,n1,k1,s2,n2,k2,i,l,d,rfl,hv,hb⟩
   obtain ⟨g,h,mid,e,i1,i2,g1,g2⟩:=hv (by simp)
   injection e with e
   simp at e
   obtain ⟨⟨rfl,rfl,rfl⟩,⟨rfl,rfl,rfl⟩,rfl,rfl,rfl⟩:=e
   have hz:=(i1.1.lt g rfl).2
   have HC:=Q00 (Q0n i1.1 rfl)
   clear hv i1 i2
   replace z0:v1.cell? ⟨w.heap.size,0,none⟩=some (.int .i64 m.id):=(hb.cell (p:=⟨w.heap.size,0,none⟩) zz).trans z0
   replace z1:v1.cell? ⟨w.heap.size,1,none⟩=some (.int .i64 m.lim):=(hb.cell (p:=⟨w.heap.size,1,none⟩) zz).trans z1
   replace z2:v1.cell? ⟨w.heap.size,2,none⟩=some (.bool m.dr):=(hb.cell (p:=⟨w.heap.size,2,none⟩) zz).trans z2
   replace z3:v1.cell? ⟨w.heap.size,3,none⟩=some (.slice oc m.c.length cc):=(hb.cell (p:=⟨w.heap.size,3,none⟩) zz).trans z3
   replace z4:v1.cell? ⟨w.heap.size,4,none⟩=some (.slice ot m.t.length ct):=(hb.cell (p:=⟨w.heap.size,4,none⟩) zz).trans z4
   replace zz:w.heap.size < v1.heap.size:=Kbq zz hb.size
   replace f0:v1.cell? ⟨w.heap.size+1,0,none⟩=some (.int .i64 a):=(hb.cell (p:=⟨w.heap.size+1,0,none⟩) zf).trans f0
   replace f1:v1.cell? ⟨w.heap.size+1,1,none⟩=some (.int .i64 p):=(hb.cell (p:=⟨w.heap.size+1,1,none⟩) zf).trans f1
   replace zf:w.heap.size+1 < v1.heap.size:=Kbq zf hb.size
   replace HB:=Q00 (HB.out.trans (hb.mono HB.out.size))
   clear hb
   obtain ⟨W2,hW2⟩:∃W,(v1.alloc (.cells #[.slice (some ⟨g,0,none⟩) m.c.length m.c.length,.slice (some ⟨h,0,none⟩) m.t.length m.t.length,.int .i64 m.id,.int .i64 m.lim,.bool m.dr] 68))=W:=⟨_,rfl⟩
   have hb_W2:Below v1.heap.size v1 W2:=by rw [←hW2];exact ((Below.refl _ _).alloc (Kaq _) _)
   replace z0:W2.cell? ⟨w.heap.size,0,none⟩=some (.int .i64 m.id):=(hb_W2.cell (p:=⟨w.heap.size,0,none⟩) zz).trans z0
   replace z1:W2.cell? ⟨w.heap.size,1,none⟩=some (.int .i64 m.lim):=(hb_W2.cell (p:=⟨w.heap.size,1,none⟩) zz).trans z1
   replace z2:W2.cell? ⟨w.heap.size,2,none⟩=some (.bool m.dr):=(hb_W2.cell (p:=⟨w.heap.size,2,none⟩) zz).trans z2
   replace z3:W2.cell? ⟨w.heap.size,3,none⟩=some (.slice oc m.c.length cc):=(hb_W2.cell (p:=⟨w.heap.size,3,none⟩) zz).trans z3
   replace z4:W2.cell? ⟨w.heap.size,4,none⟩=some (.slice ot m.t.length ct):=(hb_W2.cell (p:=⟨w.heap.size,4,none⟩) zz).trans z4
   replace zz:w.heap.size < W2.heap.size:=Kbq zz hb_W2.size
   replace f0:W2.cell? ⟨w.heap.size+1,0,none⟩=some (.int .i64 a):=(hb_W2.cell (p:=⟨w.heap.size+1,0,none⟩) zf).trans f0
   replace f1:W2.cell? ⟨w.heap.size+1,1,none⟩=some (.int .i64 p):=(hb_W2.cell (p:=⟨w.heap.size+1,1,none⟩) zf).trans f1
   replace zf:w.heap.size+1 < W2.heap.size:=Kbq zf hb_W2.size
   replace HB:=Q00 (HB.out.trans (hb_W2.mono HB.out.size))
   clear hb_W2
   have zo:v1.heap.size < W2.heap.size:=by rw [←hW2];simp
   have o0:W2.cell? ⟨v1.heap.size,0,none⟩=some (.slice (some ⟨g,0,none⟩) m.c.length m.c.length):=by rw [←hW2];simp [go_sem]
   have o1:W2.cell? ⟨v1.heap.size,1,none⟩=some (.slice (some ⟨h,0,none⟩) m.t.length m.t.length):=by rw [←hW2];simp [go_sem]
   have o2:W2.cell? ⟨v1.heap.size,2,none⟩=some (.int .i64 m.id):=by rw [←hW2];simp [go_sem]
   have o3:W2.cell? ⟨v1.heap.size,3,none⟩=some (.int .i64 m.lim):=by rw [←hW2];simp [go_sem]
   have o4:W2.cell? ⟨v1.heap.size,4,none⟩=some (.bool m.dr):=by rw [←hW2];simp [go_sem]
   have hz2:=(show Below v1.heap.size v1 W2 by rw [←hW2];exact (Below.refl _ _).alloc (Kaq _) _)
   go_wp2_with fail
   refine (hfo _).mono ?_
   rintro e v2 ⟨rfl,hb⟩
   replace hz2:=hz2.trans (hb.mono hz2.size)
   replace z0:v2.cell? ⟨w.heap.size,0,none⟩=some (.int .i64 m.id):=(hb.cell (p:=⟨w.heap.size,0,none⟩) zz).trans z0
   replace z1:v2.cell? ⟨w.heap.size,1,none⟩=some (.int .i64 m.lim):=(hb.cell (p:=⟨w.heap.size,1,none⟩) zz).trans z1
   replace z2:v2.cell? ⟨w.heap.size,2,none⟩=some (.bool m.dr):=(hb.cell (p:=⟨w.heap.size,2,none⟩) zz).trans z2
   replace z3:v2.cell? ⟨w.heap.size,3,none⟩=some (.slice oc m.c.length cc):=(hb.cell (p:=⟨w.heap.size,3,none⟩) zz).trans z3
   replace z4:v2.cell? ⟨w.heap.size,4,none⟩=some (.slice ot m.t.length ct):=(hb.cell (p:=⟨w.heap.size,4,none⟩) zz).trans z4
   replace zz:w.heap.size < v2.heap.size:=Kbq zz hb.size
   replace f0:v2.cell? ⟨w.heap.size+1,0,none⟩=some (.int .i64 a):=(hb.cell (p:=⟨w.heap.size+1,0,none⟩) zf).trans f0
   replace f1:v2.cell? ⟨w.heap.size+1,1,none⟩=some (.int .i64 p):=(hb.cell (p:=⟨w.heap.size+1,1,none⟩) zf).trans f1
   replace zf:w.heap.size+1 < v2.heap.size:=Kbq zf hb.size
   replace o0:v2.cell? ⟨v1.heap.size,0,none⟩=some (.slice (some ⟨g,0,none⟩) m.c.length m.c.length):=(hb.cell (p:=⟨v1.heap.size,0,none⟩) zo).trans o0
   replace o1:v2.cell? ⟨v1.heap.size,1,none⟩=some (.slice (some ⟨h,0,none⟩) m.t.length m.t.length):=(hb.cell (p:=⟨v1.heap.size,1,none⟩) zo).trans o1
   replace o2:v2.cell? ⟨v1.heap.size,2,none⟩=some (.int .i64 m.id):=(hb.cell (p:=⟨v1.heap.size,2,none⟩) zo).trans o2
   replace o3:v2.cell? ⟨v1.heap.size,3,none⟩=some (.int .i64 m.lim):=(hb.cell (p:=⟨v1.heap.size,3,none⟩) zo).trans o3
   replace o4:v2.cell? ⟨v1.heap.size,4,none⟩=some (.bool m.dr):=(hb.cell (p:=⟨v1.heap.size,4,none⟩) zo).trans o4
   replace zo:v1.heap.size < v2.heap.size:=Kbq zo hb.size
   replace HB:=Q00 (HB.out.trans (hb.mono HB.out.size))
   clear hb
   go_wp2_with fail
   refine (Q3j g 0 m.c.length m.c a p v2 hpos (by omega) HF.out (Kbq hz hz2.size) (fun i hi j hj=> (hz2.cell (p:=⟨g,0+i * Q0e.k+j,none⟩) hz).trans (HC.out i hi j hj))).mono ?_
   rintro e v3 ⟨rfl,hb⟩
   replace z0:v3.cell? ⟨w.heap.size,0,none⟩=some (.int .i64 m.id):=(hb.cell (p:=⟨w.heap.size,0,none⟩) zz).trans z0
   replace z1:v3.cell? ⟨w.heap.size,1,none⟩=some (.int .i64 m.lim):=(hb.cell (p:=⟨w.heap.size,1,none⟩) zz).trans z1
   replace z2:v3.cell? ⟨w.heap.size,2,none⟩=some (.bool m.dr):=(hb.cell (p:=⟨w.heap.size,2,none⟩) zz).trans z2
   replace z3:v3.cell? ⟨w.heap.size,3,none⟩=some (.slice oc m.c.length cc):=(hb.cell (p:=⟨w.heap.size,3,none⟩) zz).trans z3
   replace z4:v3.cell? ⟨w.heap.size,4,none⟩=some (.slice ot m.t.length ct):=(hb.cell (p:=⟨w.heap.size,4,none⟩) zz).trans z4
   replace zz:w.heap.size < v3.heap.size:=Kbq zz hb.size
   replace f0:v3.cell? ⟨w.heap.size+1,0,none⟩=some (.int .i64 a):=(hb.cell (p:=⟨w.heap.size+1,0,none⟩) zf).trans f0
   replace f1:v3.cell? ⟨w.heap.size+1,1,none⟩=some (.int .i64 p):=(hb.cell (p:=⟨w.heap.size+1,1,none⟩) zf).trans f1
   replace zf:w.heap.size+1 < v3.heap.size:=Kbq zf hb.size
   replace o0:v3.cell? ⟨v1.heap.size,0,none⟩=some (.slice (some ⟨g,0,none⟩) m.c.length m.c.length):=(hb.cell (p:=⟨v1.heap.size,0,none⟩) zo).trans o0
   replace o1:v3.cell? ⟨v1.heap.size,1,none⟩=some (.slice (some ⟨h,0,none⟩) m.t.length m.t.length):=(hb.cell (p:=⟨v1.heap.size,1,none⟩) zo).trans o1
   replace o2:v3.cell? ⟨v1.heap.size,2,none⟩=some (.int .i64 m.id):=(hb.cell (p:=⟨v1.heap.size,2,none⟩) zo).trans o2
   replace o3:v3.cell? ⟨v1.heap.size,3,none⟩=some (.int .i64 m.lim):=(hb.cell (p:=⟨v1.heap.size,3,none⟩) zo).trans o3
   replace o4:v3.cell? ⟨v1.heap.size,4,none⟩=some (.bool m.dr):=(hb.cell (p:=⟨v1.heap.size,4,none⟩) zo).trans o4
   replace zo:v1.heap.size < v3.heap.size:=Kbq zo hb.size
   replace HB:=Q00 (HB.out.trans (hb.mono HB.out.size))
   clear hb
   generalize (Q0m m.c a p).2=tt at *
   go_wp2
   go_ret
   exact ⟨by rw [HE.out];simp,HB.out⟩
theorem Q4M (v:Value) (m:Am) (a p:Int) (w:World) (hR:RdA w.heap.size w v m) (hf:m.c.length+m.t.length≤1048576):
  Calls Try.prog 12 #[v,Q2S a p] w fun e w'=> e=.returned (.bool (Q4n m a p))∧Below w.heap.size w w':=by
 have hR0:=hR
 obtain ⟨vc,vt,rfl,⟨oc,cc,rfl,rc⟩,⟨ot,ct,rfl,rt⟩⟩:=hR0
 obtain ⟨W0,hW0⟩:∃W,((w.alloc (.cells #[.int .i64 m.id,.int .i64 m.lim,.bool m.dr,.slice oc m.c.length cc,.slice ot m.t.length ct] 27)).alloc (.cells #[.int .i64 a,.int .i64 p] 29))=W:=⟨_,rfl⟩
 have hb_W0:Below w.heap.size w W0:=by rw [←hW0];exact (((Below.refl _ _).alloc (Kaq _) _).alloc (by simp <;> omega) _)
 have HB:=Q00 hb_W0
 clear hb_W0
 have zz:w.heap.size < W0.heap.size:=by rw [←hW0];simp <;> omega
 have z0:W0.cell? ⟨w.heap.size,0,none⟩=some (.int .i64 m.id):=by rw [←hW0];simp [go_sem]
 have z1:W0.cell? ⟨w.heap.size,1,none⟩=some (.int .i64 m.lim):=by rw [←hW0];simp [go_sem]
 have z2:W0.cell? ⟨w.heap.size,2,none⟩=some (.bool m.dr):=by rw [←hW0];simp [go_sem]
 have z3:W0.cell? ⟨w.heap.size,3,none⟩=some (.slice oc m.c.length cc):=by rw [←hW0];simp [go_sem]
 have z4:W0.cell? ⟨w.heap.size,4,none⟩=some (.slice ot m.t.length ct):=by rw [←hW0];simp [go_sem]
 have zf:w.heap.size+1 < W0.heap.size:=by rw [←hW0];simp
 have f0:W0.cell? ⟨w.heap.size+1,0,none⟩=some (.int .i64 a):=by rw [←hW0];simp [go_sem]
 have f1:W0.cell? ⟨w.heap.size+1,1,none⟩=some (.int .i64 p):=by rw [←hW0];simp [go_sem]
 have HOK:=Q00 (Q1m _ m W0 ((hR.kept HB.out (Kaq _)).le HB.out.size) hf)
 have hfo:=fun W=> Q0E a p W
 have HE:=Q00 (show Q4n m a p=(Q0o m && Q0c a p && (Q0m m.t a p).2) from rfl)
 have HP:=Q00 (fun h=> Q2Z (m:=m) h)
 clear rc rt
 cases hT:Q0o m with
 |false=>
  rw [hT] at HOK HE
  clear hT hfo
  go_enter Try.func12,Try.ntmps12
  go_wp2_with fail
  refine (HOK.out).mono ?_
  rintro e v1 ⟨s1,n1,k1,s2,n2,k2,i,l,d,rfl,hv,hb⟩
  clear hv
  replace z0:v1.cell? ⟨w.heap.size,0,none⟩=some (.int .i64 m.id):=(hb.cell (p:=⟨w.heap.size,0,none⟩) zz).trans z0
  replace z1:v1.cell? ⟨w.heap.size,1,none⟩=some (.int .i64 m.lim):=(hb.cell (p:=⟨w.heap.size,1,none⟩) zz).trans z1
  replace z2:v1.cell? ⟨w.heap.size,2,none⟩=some (.bool m.dr):=(hb.cell (p:=⟨w.heap.size,2,none⟩) zz).trans z2
  replace z3:v1.cell? ⟨w.heap.size,3,none⟩=some (.slice oc m.c.length cc):=(hb.cell (p:=⟨w.heap.size,3,none⟩) zz).trans z3
  replace z4:v1.cell? ⟨w.heap.size,4,none⟩=some (.slice ot m.t.length ct):=(hb.cell (p:=⟨w.heap.size,4,none⟩) zz).trans z4
  replace zz:w.heap.size < v1.heap.size:=Kbq zz hb.size
  replace f0:v1.cell? ⟨w.heap.size+1,0,none⟩=some (.int .i64 a):=(hb.cell (p:=⟨w.heap.size+1,0,none⟩) zf).trans f0
  replace f1:v1.cell? ⟨w.heap.size+1,1,none⟩=some (.int .i64 p):=(hb.cell (p:=⟨w.heap.size+1,1,none⟩) zf).trans f1
  replace zf:w.heap.size+1 < v1.heap.size:=Kbq zf hb.size
  replace HB:=Q00 (HB.out.trans (hb.mono HB.out.size))
  clear hb
  obtain ⟨W2,hW2⟩:∃W,(v1.alloc (.cells #[.slice s1 n1 k1,.slice s2 n2 k2,.int .i64 i,.int .i64 l,.bool d] 68))=W:=⟨_,rfl⟩
  have hb_W2:Below v1.heap.size v1 W2:=by rw [←hW2];exact ((Below.refl _ _).alloc (Kaq _) _)
  replace z0:W2.cell? ⟨w.heap.size,0,none⟩=some (.int .i64 m.id):=(hb_W2.cell (p:=⟨w.heap.size,0,none⟩) zz).trans z0
  replace z1:W2.cell? ⟨w.heap.size,1,none⟩=some (.int .i64 m.lim):=(hb_W2.cell (p:=⟨w.heap.size,1,none⟩) zz).trans z1
  replace z2:W2.cell? ⟨w.heap.size,2,none⟩=some (.bool m.dr):=(hb_W2.cell (p:=⟨w.heap.size,2,none⟩) zz).trans z2
  replace z3:W2.cell? ⟨w.heap.size,3,none⟩=some (.slice oc m.c.length cc):=(hb_W2.cell (p:=⟨w.heap.size,3,none⟩) zz).trans z3
  replace z4:W2.cell? ⟨w.heap.size,4,none⟩=some (.slice ot m.t.length ct):=(hb_W2.cell (p:=⟨w.heap.size,4,none⟩) zz).trans z4
  replace zz:w.heap.size < W2.heap.size:=Kbq zz hb_W2.size
  replace f0:W2.cell? ⟨w.heap.size+1,0,none⟩=some (.int .i64 a):=(hb_W2.cell (p:=⟨w.heap.size+1,0,none⟩) zf).trans f0
  replace f1:W2.cell? ⟨w.heap.size+1,1,none⟩=some (.int .i64 p):=(hb_W2.cell (p:=⟨w.heap.size+1,1,none⟩) zf).trans f1
  replace zf:w.heap.size+1 < W2.heap.size:=Kbq zf hb_W2.size
  replace HB:=Q00 (HB.out.trans (hb_W2.mono HB.out.size))
  clear hb_W2
  have zo:v1.heap.size < W2.heap.size:=by rw [←hW2];simp
  have o0:W2.cell? ⟨v1.heap.size,0,none⟩=some (.slice s1 n1 k1):=by rw [←hW2];simp [go_sem]
  have o1:W2.cell? ⟨v1.heap.size,1,none⟩=some (.slice s2 n2 k2):=by rw [←hW2];simp [go_sem]
  have o2:W2.cell? ⟨v1.heap.size,2,none⟩=some (.int .i64 i):=by rw [←hW2];simp [go_sem]
  have o3:W2.cell? ⟨v1.heap.size,3,none⟩=some (.int .i64 l):=by rw [←hW2];simp [go_sem]
  have o4:W2.cell? ⟨v1.heap.size,4,none⟩=some (.bool d):=by rw [←hW2];simp [go_sem]
  go_wp2
  go_ret
  exact ⟨by rw [HE.out];rfl,HB.out⟩
 |true=>
  have hpos:=(HP.out hT).2
  rw [hT] at HOK HE
  clear hT HP
  cases hF:Q0c a p with
  |false=>
   rw [hF] at hfo HE
   clear hF
   go_enter Try.func12,Try.ntmps12
   go_wp2_with fail
   refine (HOK.out).mono ?_
   rintro e v1 ⟨s1,n1,k1,s2,n2,k2,i,l,d,rfl,hv,hb⟩
   clear hv
   replace z0:v1.cell? ⟨w.heap.size,0,none⟩=some (.int .i64 m.id):=(hb.cell (p:=⟨w.heap.size,0,none⟩) zz).trans z0
   replace z1:v1.cell? ⟨w.heap.size,1,none⟩=some (.int .i64 m.lim):=(hb.cell (p:=⟨w.heap.size,1,none⟩) zz).trans z1
   replace z2:v1.cell? ⟨w.heap.size,2,none⟩=some (.bool m.dr):=(hb.cell (p:=⟨w.heap.size,2,none⟩) zz).trans z2
   replace z3:v1.cell? ⟨w.heap.size,3,none⟩=some (.slice oc m.c.length cc):=(hb.cell (p:=⟨w.heap.size,3,none⟩) zz).trans z3
   replace z4:v1.cell? ⟨w.heap.size,4,none⟩=some (.slice ot m.t.length ct):=(hb.cell (p:=⟨w.heap.size,4,none⟩) zz).trans z4
   replace zz:w.heap.size < v1.heap.size:=Kbq zz hb.size
   replace f0:v1.cell? ⟨w.heap.size+1,0,none⟩=some (.int .i64 a):=(hb.cell (p:=⟨w.heap.size+1,0,none⟩) zf).trans f0
   replace f1:v1.cell? ⟨w.heap.size+1,1,none⟩=some (.int .i64 p):=(hb.cell (p:=⟨w.heap.size+1,1,none⟩) zf).trans f1
   replace zf:w.heap.size+1 < v1.heap.size:=Kbq zf hb.size
   replace HB:=Q00 (HB.out.trans (hb.mono HB.out.size))
   clear hb
   obtain ⟨W2,hW2⟩:∃W,(v1.alloc (.cells #[.slice s1 n1 k1,.slice s2 n2 k2,.int .i64 i,.int .i64 l,.bool d] 68))=W:=⟨_,rfl⟩
   have hb_W2:Below v1.heap.size v1 W2:=by rw [←hW2];exact ((Below.refl _ _).alloc (Kaq _) _)
   replace z0:W2.cell? ⟨w.heap.size,0,none⟩=some (.int .i64 m.id):=(hb_W2.cell (p:=⟨w.heap.size,0,none⟩) zz).trans z0
   replace z1:W2.cell? ⟨w.heap.size,1,none⟩=some (.int .i64 m.lim):=(hb_W2.cell (p:=⟨w.heap.size,1,none⟩) zz).trans z1
   replace z2:W2.cell? ⟨w.heap.size,2,none⟩=some (.bool m.dr):=(hb_W2.cell (p:=⟨w.heap.size,2,none⟩) zz).trans z2
   replace z3:W2.cell? ⟨w.heap.size,3,none⟩=some (.slice oc m.c.length cc):=(hb_W2.cell (p:=⟨w.heap.size,3,none⟩) zz).trans z3
   replace z4:W2.cell? ⟨w.heap.size,4,none⟩=some (.slice ot m.t.length ct):=(hb_W2.cell (p:=⟨w.heap.size,4,none⟩) zz).trans z4
   replace zz:w.heap.size < W2.heap.size:=Kbq zz hb_W2.size
   replace f0:W2.cell? ⟨w.heap.size+1,0,none⟩=some (.int .i64 a):=(hb_W2.cell (p:=⟨w.heap.size+1,0,none⟩) zf).trans f0
   replace f1:W2.cell? ⟨w.heap.size+1,1,none⟩=some (.int .i64 p):=(hb_W2.cell (p:=⟨w.heap.size+1,1,none⟩) zf).trans f1
   replace zf:w.heap.size+1 < W2.heap.size:=Kbq zf hb_W2.size
   replace HB:=Q00 (HB.out.trans (hb_W2.mono HB.out.size))
   clear hb_W2
   have zo:v1.heap.size < W2.heap.size:=by rw [←hW2];simp
   have o0:W2.cell? ⟨v1.heap.size,0,none⟩=some (.slice s1 n1 k1):=by rw [←hW2];simp [go_sem]
   have o1:W2.cell? ⟨v1.heap.size,1,none⟩=some (.slice s2 n2 k2):=by rw [←hW2];simp [go_sem]
   have o2:W2.cell? ⟨v1.heap.size,2,none⟩=some (.int .i64 i):=by rw [←hW2];simp [go_sem]
   have o3:W2.cell? ⟨v1.heap.size,3,none⟩=some (.int .i64 l):=by rw [←hW2];simp [go_sem]
   have o4:W2.cell? ⟨v1.heap.size,4,none⟩=some (.bool d):=by rw [←hW2];simp [go_sem]
   go_wp2_with fail
   refine (hfo _).mono ?_
   rintro e v2 ⟨rfl,hb⟩
   replace z0:v2.cell? ⟨w.heap.size,0,none⟩=some (.int .i64 m.id):=(hb.cell (p:=⟨w.heap.size,0,none⟩) zz).trans z0
   replace z1:v2.cell? ⟨w.heap.size,1,none⟩=some (.int .i64 m.lim):=(hb.cell (p:=⟨w.heap.size,1,none⟩) zz).trans z1
   replace z2:v2.cell? ⟨w.heap.size,2,none⟩=some (.bool m.dr):=(hb.cell (p:=⟨w.heap.size,2,none⟩) zz).trans z2
   replace z3:v2.cell? ⟨w.heap.size,3,none⟩=some (.slice oc m.c.length cc):=(hb.cell (p:=⟨w.heap.size,3,none⟩) zz).trans z3
   replace z4:v2.cell? ⟨w.heap.size,4,none⟩=some (.slice ot m.t.length ct):=(hb.cell (p:=⟨w.heap.size,4,none⟩) zz).trans z4
   replace zz:w.heap.size < v2.heap.size:=Kbq zz hb.size
   replace f0:v2.cell? ⟨w.heap.size+1,0,none⟩=some (.int .i64 a):=(hb.cell (p:=⟨w.heap.size+1,0,none⟩) zf).trans f0
   replace f1:v2.cell? ⟨w.heap.size+1,1,none⟩=some (.int .i64 p):=(hb.cell (p:=⟨w.heap.size+1,1,none⟩) zf).trans f1
   replace zf:w.heap.size+1 < v2.heap.size:=Kbq zf hb.size
   replace o0:v2.cell? ⟨v1.heap.size,0,none⟩=some (.slice s1 n1 k1):=(hb.cell (p:=⟨v1.heap.size,0,none⟩) zo).trans o0
   replace o1:v2.cell? ⟨v1.heap.size,1,none⟩=some (.slice s2 n2 k2):=(hb.cell (p:=⟨v1.heap.size,1,none⟩) zo).trans o1
   replace o2:v2.cell? ⟨v1.heap.size,2,none⟩=some (.int .i64 i):=(hb.cell (p:=⟨v1.heap.size,2,none⟩) zo).trans o2
   replace o3:v2.cell? ⟨v1.heap.size,3,none⟩=some (.int .i64 l):=(hb.cell (p:=⟨v1.heap.size,3,none⟩) zo).trans o3
   replace o4:v2.cell? ⟨v1.heap.size,4,none⟩=some (.bool d):=(hb.cell (p:=⟨v1.heap.size,4,none⟩) zo).trans o4
   replace zo:v1.heap.size < v2.heap.size:=Kbq zo hb.size
   replace HB:=Q00 (HB.out.trans (hb.mono HB.out.size))
   clear hb
   go_wp2
   go_ret
   exact ⟨by rw [HE.out];rfl,HB.out⟩
  |true=>
   have HF:=Q00 hF
   rw [hF] at hfo HE
   clear hF
   go_enter Try.func12,Try.ntmps12
   go_wp2_with fail
   refine (HOK.out).mono ?_
   rintro e v1 ⟨s1,n1,k1,s2,n2,k2,i,l,d,rfl,hv,hb⟩
   obtain ⟨g,h,mid,e,i1,i2,g1,g2⟩:=hv (by simp)
   injection e with e
   simp at e
   obtain ⟨⟨rfl,rfl,rfl⟩,⟨rfl,rfl,rfl⟩,rfl,rfl,rfl⟩:=e
   have hz:=(i2.1.lt h rfl).2
   have HC:=Q00 (Q0n i2.1 rfl)
   clear hv i1 i2
   replace z0:v1.cell? ⟨w.heap.size,0,none⟩=some (.int .i64 m.id):=(hb.cell (p:=⟨w.heap.size,0,none⟩) zz).trans z0
   replace z1:v1.cell? ⟨w.heap.size,1,none⟩=some (.int .i64 m.lim):=(hb.cell (p:=⟨w.heap.size,1,none⟩) zz).trans z1
   replace z2:v1.cell? ⟨w.heap.size,2,none⟩=some (.bool m.dr):=(hb.cell (p:=⟨w.heap.size,2,none⟩) zz).trans z2
   replace z3:v1.cell? ⟨w.heap.size,3,none⟩=some (.slice oc m.c.length cc):=(hb.cell (p:=⟨w.heap.size,3,none⟩) zz).trans z3
   replace z4:v1.cell? ⟨w.heap.size,4,none⟩=some (.slice ot m.t.length ct):=(hb.cell (p:=⟨w.heap.size,4,none⟩) zz).trans z4
   replace zz:w.heap.size < v1.heap.size:=Kbq zz hb.size
   replace f0:v1.cell? ⟨w.heap.size+1,0,none⟩=some (.int .i64 a):=(hb.cell (p:=⟨w.heap.size+1,0,none⟩) zf).trans f0
   replace f1:v1.cell? ⟨w.heap.size+1,1,none⟩=some (.int .i64 p):=(hb.cell (p:=⟨w.heap.size+1,1,none⟩) zf).trans f1
   replace zf:w.heap.size+1 < v1.heap.size:=Kbq zf hb.size
   replace HB:=Q00 (HB.out.trans (hb.mono HB.out.size))
   clear hb
   obtain ⟨W2,hW2⟩:∃W,(v1.alloc (.cells #[.slice (some ⟨g,0,none⟩) m.c.length m.c.length,.slice (some ⟨h,0,none⟩) m.t.length m.t.length,.int .i64 m.id,.int .i64 m.lim,.bool m.dr] 68))=W:=⟨_,rfl⟩
   have hb_W2:Below v1.heap.size v1 W2:=by rw [←hW2];exact ((Below.refl _ _).alloc (Kaq _) _)
   replace z0:W2.cell? ⟨w.heap.size,0,none⟩=some (.int .i64 m.id):=(hb_W2.cell (p:=⟨w.heap.size,0,none⟩) zz).trans z0
   replace z1:W2.cell? ⟨w.heap.size,1,none⟩=some (.int .i64 m.lim):=(hb_W2.cell (p:=⟨w.heap.size,1,none⟩) zz).trans z1
   replace z2:W2.cell? ⟨w.heap.size,2,none⟩=some (.bool m.dr):=(hb_W2.cell (p:=⟨w.heap.size,2,none⟩) zz).trans z2
   replace z3:W2.cell? ⟨w.heap.size,3,none⟩=some (.slice oc m.c.length cc):=(hb_W2.cell (p:=⟨w.heap.size,3,none⟩) zz).trans z3
   replace z4:W2.cell? ⟨w.heap.size,4,none⟩=some (.slice ot m.t.length ct):=(hb_W2.cell (p:=⟨w.heap.size,4,none⟩) zz).trans z4
   replace zz:w.heap.size < W2.heap.size:=Kbq zz hb_W2.size
   replace f0:W2.cell? ⟨w.heap.size+1,0,none⟩=some (.int .i64 a):=(hb_W2.cell (p:=⟨w.heap.size+1,0,none⟩) zf).trans f0
   replace f1:W2.cell? ⟨w.heap.size+1,1,none⟩=some (.int .i64 p):=(hb_W2.cell (p:=⟨w.heap.size+1,1,none⟩) zf).trans f1
   replace zf:w.heap.size+1 < W2.heap.size:=Kbq zf hb_W2.size
   replace HB:=Q00 (HB.out.trans (hb_W2.mono HB.out.size))
   clear hb_W2
   have zo:v1.heap.size < W2.heap.size:=by rw [←hW2];simp
   have o0:W2.cell? ⟨v1.heap.size,0,none⟩=some (.slice (some ⟨g,0,none⟩) m.c.length m.c.length):=by rw [←hW2];simp [go_sem]
   have o1:W2.cell? ⟨v1.heap.size,1,none⟩=some (.slice (some ⟨h,0,none⟩) m.t.length m.t.length):=by rw [←hW2];simp [go_sem]
   have o2:W2.cell? ⟨v1.heap.size,2,none⟩=some (.int .i64 m.id):=by rw [←hW2];simp [go_sem]
   have o3:W2.cell? ⟨v1.heap.size,3,none⟩=some (.int .i64 m.lim):=by rw [←hW2];simp [go_sem]
   have o4:W2.cell? ⟨v1.heap.size,4,none⟩=some (.bool m.dr):=by rw [←hW2];simp [go_sem]
   have hz2:=(show Below v1.heap.size v1 W2 by rw [←hW2];exact (Below.refl _ _).alloc (Kaq _) _)
   go_wp2_with fail
   refine (hfo _).mono ?_
   rintro e v2 ⟨rfl,hb⟩
   replace hz2:=hz2.trans (hb.mono hz2.size)
   replace z0:v2.cell? ⟨w.heap.size,0,none⟩=some (.int .i64 m.id):=(hb.cell (p:=⟨w.heap.size,0,none⟩) zz).trans z0
   replace z1:v2.cell? ⟨w.heap.size,1,none⟩=some (.int .i64 m.lim):=(hb.cell (p:=⟨w.heap.size,1,none⟩) zz).trans z1
   replace z2:v2.cell? ⟨w.heap.size,2,none⟩=some (.bool m.dr):=(hb.cell (p:=⟨w.heap.size,2,none⟩) zz).trans z2
   replace z3:v2.cell? ⟨w.heap.size,3,none⟩=some (.slice oc m.c.length cc):=(hb.cell (p:=⟨w.heap.size,3,none⟩) zz).trans z3
   replace z4:v2.cell? ⟨w.heap.size,4,none⟩=some (.slice ot m.t.length ct):=(hb.cell (p:=⟨w.heap.size,4,none⟩) zz).trans z4
   replace zz:w.heap.size < v2.heap.size:=Kbq zz hb.size
   replace f0:v2.cell? ⟨w.heap.size+1,0,none⟩=some (.int .i64 a):=(hb.cell (p:=⟨w.heap.size+1,0,none⟩) zf).trans f0
   replace f1:v2.cell? ⟨w.heap.size+1,1,none⟩=some (.int .i64 p):=(hb.cell (p:=⟨w.heap.size+1,1,none⟩) zf).trans f1
   replace zf:w.heap.size+1 < v2.heap.size:=Kbq zf hb.size
   replace o0:v2.cell? ⟨v1.heap.size,0,none⟩=some (.slice (some ⟨g,0,none⟩) m.c.length m.c.length):=(hb.cell (p:=⟨v1.heap.size,0,none⟩) zo).trans o0
   replace o1:v2.cell? ⟨v1.heap.size,1,none⟩=some (.slice (some ⟨h,0,none⟩) m.t.length m.t.length):=(hb.cell (p:=⟨v1.heap.size,1,none⟩) zo).trans o1
   replace o2:v2.cell? ⟨v1.heap.size,2,none⟩=some (.int .i64 m.id):=(hb.cell (p:=⟨v1.heap.size,2,none⟩) zo).trans o2
   replace o3:v2.cell? ⟨v1.heap.size,3,none⟩=some (.int .i64 m.lim):=(hb.cell (p:=⟨v1.heap.size,3,none⟩) zo).trans o3
   replace o4:v2.cell? ⟨v1.heap.size,4,none⟩=some (.bool m.dr):=(hb.cell (p:=⟨v1.heap.size,4,none⟩) zo).trans o4
   replace zo:v1.heap.size < v2.heap.size:=Kbq zo hb.size
   replace HB:=Q00 (HB.out.trans (hb.mono HB.out.size))
   clear hb
   go_wp2_with fail
   refine (Q1r h 0 m.t.length m.t a p v2 hpos (by omega) HF.out (Kbq hz hz2.size) (fun i hi j hj=> (hz2.cell (p:=⟨h,0+i * Q0e.k+j,none⟩) hz).trans (HC.out i hi j hj))).mono ?_
   rintro e v3 ⟨rfl,hb⟩
   replace z0:v3.cell? ⟨w.heap.size,0,none⟩=some (.int .i64 m.id):=(hb.cell (p:=⟨w.heap.size,0,none⟩) zz).trans z0
   replace z1:v3.cell? ⟨w.heap.size,1,none⟩=some (.int .i64 m.lim):=(hb.cell (p:=⟨w.heap.size,1,none⟩) zz).trans z1
   replace z2:v3.cell? ⟨w.heap.size,2,none⟩=some (.bool m.dr):=(hb.cell (p:=⟨w.heap.size,2,none⟩) zz).trans z2
   replace z3:v3.cell? ⟨w.heap.size,3,none⟩=some (.slice oc m.c.length cc):=(hb.cell (p:=⟨w.heap.size,3,none⟩) zz).trans z3
   replace z4:v3.cell? ⟨w.heap.size,4,none⟩=some (.slice ot m.t.length ct):=(hb.cell (p:=⟨w.heap.size,4,none⟩) zz).trans z4
   replace zz:w.heap.size < v3.heap.size:=Kbq zz hb.size
   replace f0:v3.cell? ⟨w.heap.size+1,0,none⟩=some (.int .i64 a):=(hb.cell (p:=⟨w.heap.size+1,0,none⟩) zf).trans f0
   replace f1:v3.cell? ⟨w.heap.size+1,1,none⟩=some (.int .i64 p):=(hb.cell (p:=⟨w.heap.size+1,1,none⟩) zf).trans f1
   replace zf:w.heap.size+1 < v3.heap.size:=Kbq zf hb.size
   replace o0:v3.cell? ⟨v1.heap.size,0,none⟩=some (.slice (some ⟨g,0,none⟩) m.c.length m.c.length):=(hb.cell (p:=⟨v1.heap.size,0,none⟩) zo).trans o0
   replace o1:v3.cell? ⟨v1.heap.size,1,none⟩=some (.slice (some ⟨h,0,none⟩) m.t.length m.t.length):=(hb.cell (p:=⟨v1.heap.size,1,none⟩) zo).trans o1
   replace o2:v3.cell? ⟨v1.heap.size,2,none⟩=some (.int .i64 m.id):=(hb.cell (p:=⟨v1.heap.size,2,none⟩) zo).trans o2
   replace o3:v3.cell? ⟨v1.heap.size,3,none⟩=some (.int .i64 m.lim):=(hb.cell (p:=⟨v1.heap.size,3,none⟩) zo).trans o3
   replace o4:v3.cell? ⟨v1.heap.size,4,none⟩=some (.bool m.dr):=(hb.cell (p:=⟨v1.heap.size,4,none⟩) zo).trans o4
   replace zo:v1.heap.size < v3.heap.size:=Kbq zo hb.size
   replace HB:=Q00 (HB.out.trans (hb.mono HB.out.size))
   clear hb
   generalize (Q0m m.t a p).2=tt at *
   go_wp2
   go_ret
   exact ⟨by rw [HE.out];simp,HB.out⟩
end Go.Proofs.Ytljogkoaaidlcaa
