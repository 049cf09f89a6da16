/- Several texts in one: SSoon, SPlain, SGet, Cut5, SPut, SPut2, DropMath, WayMath, WayMath2, DueMath, PutMath. -/
import Derived.Test.YtpneolgdghbinaaGreatQSends08
import Derived.Test.YtpneolgdghbinaaGreatQSends22
import Derived.Test.YtpneolgdghbinaaGreatQSends09
namespace Go.Proofs.YtpneolgdghbinaaGreat
open Go.ChangeShapes Go.WideShapes Go.ChangeAt Go.RowKit Go.Joins
set_option linter.unusedVariables false
set_option linter.unusedSimpArgs false
set_option maxRecDepth 100000
set_option maxHeartbeats 40000000
def Q2a (q s:Sl):Sl:=if s.u=true∧(q.u=false∨s.t < q.t) then s else q
def Q4u (l:List Sl) (k:Nat):Sl:=(l.take k).foldl Q2a sl0
theorem Q6C {l:List Sl} {k:Nat} (h:k < l.length):Q4u l (k+1)=Q2a (Q4u l k) (l.getD k sl0):=by
 unfold Q4u
 rw [Q1p Q0h l k h,List.foldl_append];rfl
theorem Q5n {q s:Sl} (h:s.u=false):Q2a q s=q:=by unfold Q2a;rw [if_neg (by rw [h];simp)]
theorem Q4m {q s:Sl} (h:s.u=true) (hq:q.u=false):Q2a q s=s:=by unfold Q2a;rw [if_pos ⟨h,.inl hq⟩]
theorem Q4Y {q s:Sl} (h:s.u=true) (hq:s.t < q.t):Q2a q s=s:=by unfold Q2a;rw [if_pos ⟨h,.inr hq⟩]
theorem Q5a {q s:Sl} (hq:q.u=true) (h:¬s.t < q.t):Q2a q s=q:=by
 unfold Q2a
 rw [if_neg]
 rintro ⟨_,h1|h1⟩
 ·rw [hq] at h1;cases h1
 ·exact h h1
def Q5e (l:List Sl):Sl:=Q4u l l.length
theorem Q46 (w:World) (k j:Nat) (cs:Array Value) (t:TypeId) (v:Value) (h:w.heap[k]? =some (.cells cs t (0,0))):(w.setCell ⟨k,j,none⟩ v).heap[k]? =some (.cells (cs.setIfInBounds j v) t (0,0)):=by
 simp [World.setCell,Array.getElem?_modify,h]
theorem Q1X {W:World} {B:Nat} {c:Array Value} {t:TypeId} (h:W.heap[B]? =some (.cells c t (0,0))) (j:Nat):W.frozen? ⟨B,j,none⟩=false:=by simp [World.frozen?,h]
abbrev Q41 (s:Sl):Array Value:=#[.bool s.u,.int .i64 s.a,.int .i64 s.p,.int .i64 s.v,.int .i64 s.t]
def Qi5 (w:World) (B:Nat) (s:Sl):World:=((((w.setCell ⟨B,0,none⟩ (.bool s.u)).setCell ⟨B,1,none⟩ (.int .i64 s.a)).setCell ⟨B,2,none⟩ (.int .i64 s.p)).setCell ⟨B,3,none⟩ (.int .i64 s.v)).setCell ⟨B,4,none⟩ (.int .i64 s.t)
theorem Qbu {w:World} {B:Nat} {s q:Sl} {T:TypeId} (h:w.heap[B]? =some (.cells (Q41 q) T (0,0))):(Qi5 w B s).heap[B]? =some (.cells (Q41 s) T (0,0)):=by
 have h0:=Q46 w B 0 _ _ (.bool s.u) h;have h1:=Q46 _ B 1 _ _ (.int .i64 s.a) h0;have h2:=Q46 _ B 2 _ _ (.int .i64 s.p) h1;have h3:=Q46 _ B 3 _ _ (.int .i64 s.v) h2;have h4:=Q46 _ B 4 _ _ (.int .i64 s.t) h3
 exact h4
theorem Q2v {w W:World} {n B:Nat} (h:Below n w W) (hB:n≤B) (s:Sl):Below n w (Qi5 W B s):=
 ((((h.setCell (p:=⟨B,0,none⟩) hB _).setCell (p:=⟨B,1,none⟩) hB _).setCell (p:=⟨B,2,none⟩) hB _).setCell (p:=⟨B,3,none⟩) hB _).setCell (p:=⟨B,4,none⟩) hB _
theorem Q8l (b off c:Nat) (l:List Sl) (w:World) (hbl:b < w.heap.size) (hc:∀i,i < l.length→∀j,j < Q0h.k→w.cell? ⟨b,off+i * Q0h.k+j,none⟩=(Q0h.cs (l.getD i Q0h.d))[j]?) (hl:l.length≤1048576):
  Calls Tryz.prog 167 #[tab (.slice (some ⟨b,off,none⟩) l.length c)] w fun e w'=> e=.returned (.tuple #[slot (Q5e l),.bool (Q5e l).u])∧Below w.heap.size w w':=by
 have HC:=Q02 hc;clear hc;obtain ⟨W0,hW0⟩:∃W,((w.alloc (.cells #[.slice (some ⟨b,off,none⟩) l.length c] 32)).alloc (.cells #[.bool false,.int .i64 0,.int .i64 0,.int .i64 0,.int .i64 0] 101))=W:=⟨_,rfl⟩
 have hb_W0:Below w.heap.size w W0:=by rw [←hW0];exact (((Below.refl _ _).alloc (Kaq _) _).alloc (by simp <;> omega) _)
 have HB:=Q02 hb_W0;clear hb_W0
 have zct:w.heap.size < W0.heap.size:=by rw [←hW0];simp <;> omega
 have ct0:W0.cell? ⟨w.heap.size,0,none⟩=some (.slice (some ⟨b,off,none⟩) l.length c):=by rw [←hW0];simp [go_sem]
 have zcr:w.heap.size+1 < W0.heap.size:=by rw [←hW0];simp
 obtain ⟨cr0,cr1,cr2,cr3,cr4⟩:=alc5v1v2 hW0;obtain ⟨fcr0,fcr1,fcr2,fcr3,fcr4⟩:=alf5v1v2 hW0;obtain ⟨W1,hW1⟩:∃W,W0.alloc (.cells #[.bool false,.int .i64 0,.int .i64 0,.int .i64 0,.int .i64 0] 101)=W:=⟨_,rfl⟩;have zct0:=zct;have zcr0:=zcr
 have b4:Hid (W1.heap[W0.heap.size]? =some (.cells (Q41 sl0) 101 (0,0))):=by rw [←hW1];exact World.alloc_heap_new W0 _
 have hb_W1:Below W0.heap.size W0 W1:=by rw [←hW1];exact (Below.refl _ _).alloc (Kaq _) _
 replace ct0:W1.cell? ⟨w.heap.size,0,none⟩=some (.slice (some ⟨b,off,none⟩) l.length c):=(hb_W1.cell (p:=⟨w.heap.size,0,none⟩) zct).trans ct0;replace zct:w.heap.size < W1.heap.size:=Kbq zct hb_W1.size;replace cr0:W1.cell? ⟨w.heap.size+1,0,none⟩=some (.bool false):=(hb_W1.cell (p:=⟨w.heap.size+1,0,none⟩) zcr).trans cr0;replace cr1:W1.cell? ⟨w.heap.size+1,1,none⟩=some (.int .i64 0):=(hb_W1.cell (p:=⟨w.heap.size+1,1,none⟩) zcr).trans cr1;replace cr2:W1.cell? ⟨w.heap.size+1,2,none⟩=some (.int .i64 0):=(hb_W1.cell (p:=⟨w.heap.size+1,2,none⟩) zcr).trans cr2
 replace cr3:W1.cell? ⟨w.heap.size+1,3,none⟩=some (.int .i64 0):=(hb_W1.cell (p:=⟨w.heap.size+1,3,none⟩) zcr).trans cr3;replace cr4:W1.cell? ⟨w.heap.size+1,4,none⟩=some (.int .i64 0):=(hb_W1.cell (p:=⟨w.heap.size+1,4,none⟩) zcr).trans cr4;replace fcr0:W1.frozen? ⟨w.heap.size+1,0,none⟩=false:=(hb_W1.frozen (p:=⟨w.heap.size+1,0,none⟩) zcr).trans fcr0;replace fcr1:W1.frozen? ⟨w.heap.size+1,1,none⟩=false:=(hb_W1.frozen (p:=⟨w.heap.size+1,1,none⟩) zcr).trans fcr1;replace fcr2:W1.frozen? ⟨w.heap.size+1,2,none⟩=false:=(hb_W1.frozen (p:=⟨w.heap.size+1,2,none⟩) zcr).trans fcr2
 replace fcr3:W1.frozen? ⟨w.heap.size+1,3,none⟩=false:=(hb_W1.frozen (p:=⟨w.heap.size+1,3,none⟩) zcr).trans fcr3;replace fcr4:W1.frozen? ⟨w.heap.size+1,4,none⟩=false:=(hb_W1.frozen (p:=⟨w.heap.size+1,4,none⟩) zcr).trans fcr4;replace zcr:w.heap.size+1 < W1.heap.size:=Kbq zcr hb_W1.size;replace HB:=Q02 (HB.out.trans (hb_W1.mono HB.out.size));clear hb_W1
 have hz4:W0.heap.size < W1.heap.size:=by rw [←hW1];simp
 have HBW:=HB
 go_enter Tryz.func167,Tryz.ntmps167
 go_wp2
 go_loopw [5] (fun i wr=> ∃k:Nat,k≤l.length∧i=.int .i64 k∧Hid (wr.heap[W0.heap.size]? =some (.cells (Q41 (Q4u l k)) 101 (0,0)))∧Hid (Below (W0.heap.size) W1 wr))
  (fun i _=> l.length - (intOf i).toNat)
 case atStart=> exact ⟨0,Kcq _,rfl,b4,Below.refl _ _⟩
 case round=>
 obtain ⟨k,hk,rfl,hq,HBr⟩:=hrel;have hszr:W1.heap.size≤wr.heap.size:=HBr.out.size;obtain ⟨q,hqq⟩:∃q,Q4u l k=q:=⟨_,rfl⟩
 rw [hqq] at hq
 replace ct0:wr.cell? ⟨w.heap.size,0,none⟩=some (.slice (some ⟨b,off,none⟩) l.length c):=(HBr.out.cell (p:=⟨w.heap.size,0,none⟩) zct0).trans ct0
 replace zct:w.heap.size < wr.heap.size:=by omega
 replace cr0:wr.cell? ⟨w.heap.size+1,0,none⟩=some (.bool false):=(HBr.out.cell (p:=⟨w.heap.size+1,0,none⟩) zcr0).trans cr0;replace cr1:wr.cell? ⟨w.heap.size+1,1,none⟩=some (.int .i64 0):=(HBr.out.cell (p:=⟨w.heap.size+1,1,none⟩) zcr0).trans cr1;replace cr2:wr.cell? ⟨w.heap.size+1,2,none⟩=some (.int .i64 0):=(HBr.out.cell (p:=⟨w.heap.size+1,2,none⟩) zcr0).trans cr2;replace cr3:wr.cell? ⟨w.heap.size+1,3,none⟩=some (.int .i64 0):=(HBr.out.cell (p:=⟨w.heap.size+1,3,none⟩) zcr0).trans cr3
 replace cr4:wr.cell? ⟨w.heap.size+1,4,none⟩=some (.int .i64 0):=(HBr.out.cell (p:=⟨w.heap.size+1,4,none⟩) zcr0).trans cr4;replace fcr0:wr.frozen? ⟨w.heap.size+1,0,none⟩=false:=(HBr.out.frozen (p:=⟨w.heap.size+1,0,none⟩) zcr0).trans fcr0;replace fcr1:wr.frozen? ⟨w.heap.size+1,1,none⟩=false:=(HBr.out.frozen (p:=⟨w.heap.size+1,1,none⟩) zcr0).trans fcr1;replace fcr2:wr.frozen? ⟨w.heap.size+1,2,none⟩=false:=(HBr.out.frozen (p:=⟨w.heap.size+1,2,none⟩) zcr0).trans fcr2;replace fcr3:wr.frozen? ⟨w.heap.size+1,3,none⟩=false:=(HBr.out.frozen (p:=⟨w.heap.size+1,3,none⟩) zcr0).trans fcr3
 replace fcr4:wr.frozen? ⟨w.heap.size+1,4,none⟩=false:=(HBr.out.frozen (p:=⟨w.heap.size+1,4,none⟩) zcr0).trans fcr4
 replace zcr:w.heap.size+1 < wr.heap.size:=by omega
 have zq:W0.heap.size < wr.heap.size:=by omega
 have hw0:w.heap.size≤W0.heap.size:=by omega
 have HB2:=Q02 (HBW.out.trans (HBr.out.mono hw0));have q0:wr.cell? ⟨W0.heap.size,0,none⟩=some (.bool q.u):=Q0j hq.out 0 _ rfl;have q1:wr.cell? ⟨W0.heap.size,1,none⟩=some (.int .i64 q.a):=Q0j hq.out 1 _ rfl;have q2:wr.cell? ⟨W0.heap.size,2,none⟩=some (.int .i64 q.p):=Q0j hq.out 2 _ rfl;have q3:wr.cell? ⟨W0.heap.size,3,none⟩=some (.int .i64 q.v):=Q0j hq.out 3 _ rfl;have q4:wr.cell? ⟨W0.heap.size,4,none⟩=some (.int .i64 q.t):=Q0j hq.out 4 _ rfl;have fq0:=Q1X hq.out 0;have fq1:=Q1X hq.out 1;have fq2:=Q1X hq.out 2;have fq3:=Q1X hq.out 3;have fq4:=Q1X hq.out 4
 by_cases hlt:k < l.length
 ·skip
  have hcx:=RdL.slot (C:=w.heap.size) HC.out k hlt;have HSu:=Q02 (Q6C hlt)
  rw [hqq] at HSu
  obtain ⟨s,hxy⟩:∃s,l.getD k sl0=s:=⟨_,rfl⟩
  rw [hxy] at hcx HSu
  have e0:=(HB2.out.cell (p:=⟨b,off+k * 5,none⟩) hbl).trans hcx.1;have e1:=(HB2.out.cell (p:=⟨b,off+k * 5+1,none⟩) hbl).trans hcx.2.1;have e2:=(HB2.out.cell (p:=⟨b,off+k * 5+2,none⟩) hbl).trans hcx.2.2.1;have e3:=(HB2.out.cell (p:=⟨b,off+k * 5+3,none⟩) hbl).trans hcx.2.2.2.1;have e4:=(HB2.out.cell (p:=⟨b,off+k * 5+4,none⟩) hbl).trans hcx.2.2.2.2;have zb:b < wr.heap.size:=Kbq hbl HB2.out.size
  have hk':(k:Int) < (l.length:Int):=by omega
  clear hcx hxy hqq;have G0:=Grown.cell ct0 zct;have Ge0:=Grown.cell (b:=b) (off:=off+k * 5) e0 zb;have Gq0:=Grown.cell q0 zq
  have Gf0:∀p:Grown wr,p.v.frozen? ⟨W0.heap.size,0,none⟩=false:=fun p=> (p.b.frozen (p:=⟨W0.heap.size,0,none⟩) zq).trans fq0
  have Ge1:=Grown.cell (b:=b) (off:=off+k * 5+1) e1 zb;have Gq1:=Grown.cell q1 zq
  have Gf1:∀p:Grown wr,p.v.frozen? ⟨W0.heap.size,1,none⟩=false:=fun p=> (p.b.frozen (p:=⟨W0.heap.size,1,none⟩) zq).trans fq1
  have Ge2:=Grown.cell (b:=b) (off:=off+k * 5+2) e2 zb;have Gq2:=Grown.cell q2 zq
  have Gf2:∀p:Grown wr,p.v.frozen? ⟨W0.heap.size,2,none⟩=false:=fun p=> (p.b.frozen (p:=⟨W0.heap.size,2,none⟩) zq).trans fq2
  have Ge3:=Grown.cell (b:=b) (off:=off+k * 5+3) e3 zb;have Gq3:=Grown.cell q3 zq
  have Gf3:∀p:Grown wr,p.v.frozen? ⟨W0.heap.size,3,none⟩=false:=fun p=> (p.b.frozen (p:=⟨W0.heap.size,3,none⟩) zq).trans fq3
  have Ge4:=Grown.cell (b:=b) (off:=off+k * 5+4) e4 zb;have Gq4:=Grown.cell q4 zq
  have Gf4:∀p:Grown wr,p.v.frozen? ⟨W0.heap.size,4,none⟩=false:=fun p=> (p.b.frozen (p:=⟨W0.heap.size,4,none⟩) zq).trans fq4
  have HQ:=hq;clear hq fq0 q0 e0 fq1 q1 e1 fq2 q2 e2 fq3 q3 e3 fq4 q4 e4 cr0 fcr0 cr1 fcr1 cr2 fcr2 cr3 fcr3 cr4 fcr4;obtain ⟨su,sa,sp,sv,st⟩:=s;obtain ⟨qu,qa,qp,qv,qt⟩:=q
  simp only at Ge0 Ge1 Ge2 Ge3 Ge4 Gq0 Gq1 Gq2 Gq3 Gq4
  cases su with
  |false=>
   have HN:=Q02 (HSu.out.trans (Q5n rfl));clear HSu
   go_wp2
   (refine Q0v (by kernel_rfl) (by kernel_rfl) ?_;intro hne9;(repeat (go_big_quiet_step ((fail))));(with_reducible refine wpQuiet_nil ?_);intro _ hw9;obtain ⟨pq,hw8⟩:=hw9;subst hw8)
   go_wp2
   go_roundw
   case rel=> exact ⟨k+1,hlt,by go_num,(by unfold Hid;rw [HN.out];exact (pq.b.block _ zq).trans HQ.out),(HBr.out.trans (pq.b.mono (Nat.le_of_lt zq)))⟩
   case measure=> simp [intOf];omega
  |true=>
   cases qu with
   |false=>
    have HN:=Q02 (HSu.out.trans (Q4m rfl rfl));clear HSu
    go_wp2
    (refine Q0v (by kernel_rfl) (by kernel_rfl) ?_;intro hne9;(repeat (go_big_quiet_step ((fail))));(with_reducible refine wpQuiet_nil ?_);intro _ hw9;obtain ⟨pq,hw8⟩:=hw9;subst hw8)
    go_wp2
    go_roundw
    case rel=> exact ⟨k+1,hlt,by go_num,(by unfold Hid;rw [HN.out];exact Qbu (s:=⟨true,sa,sp,sv,st⟩) ((pq.b.block _ zq).trans HQ.out)),Q2v (s:=⟨true,sa,sp,sv,st⟩) (HBr.out.trans (pq.b.mono (Nat.le_of_lt zq))) (Kaq _)⟩
    case measure=> simp [intOf];omega
   |true=>
    by_cases hlq:st < qt
    ·have HN:=Q02 (HSu.out.trans (Q4Y rfl hlq))
     clear HSu
     go_wp2
     (refine Q0v (by kernel_rfl) (by kernel_rfl) ?_;intro hne9;(repeat (go_big_quiet_step ((fail))));(with_reducible refine wpQuiet_nil ?_);intro _ hw9;obtain ⟨pq,hw8⟩:=hw9;subst hw8)
     go_wp2
     go_roundw
     case rel=> exact ⟨k+1,hlt,by go_num,(by unfold Hid;rw [HN.out];exact Qbu (s:=⟨true,sa,sp,sv,st⟩) ((pq.b.block _ zq).trans HQ.out)),Q2v (s:=⟨true,sa,sp,sv,st⟩) (HBr.out.trans (pq.b.mono (Nat.le_of_lt zq))) (Kaq _)⟩
     case measure=> simp [intOf];omega
    ·have hdq:decide (st < qt)=false:=decide_eq_false hlq
     have HN:=Q02 (HSu.out.trans (Q5a rfl hlq));clear HSu
     go_wp2
     (refine Q0v (by kernel_rfl) (by kernel_rfl) ?_;intro hne9;(repeat (go_big_quiet_step ((fail))));(with_reducible refine wpQuiet_nil ?_);intro _ hw9;obtain ⟨pq,hw8⟩:=hw9;subst hw8)
     go_wp2
     go_roundw
     case rel=> exact ⟨k+1,hlt,by go_num,(by unfold Hid;rw [HN.out];exact (pq.b.block _ zq).trans HQ.out),(HBr.out.trans (pq.b.mono (Nat.le_of_lt zq)))⟩
     case measure=> simp [intOf];omega
 ·skip
  have e:k=l.length:=by omega
  subst e;have HE:=Q02 (show Q5e l=q from hqq);have HQ:=hq;clear hq hqq
  go_wp2
  go_region
  go_wp2
  refine bodyPost_ret (v:=.tuple #[slot q,.bool q.u]) (by simp [results,Tryz.results167,go_sem,cr0,cr1,cr2,cr3,cr4]) rfl ⟨by rw [HE.out], ?_⟩
  exact Q2v (s:=q) (Below.drew HB2.out) (show w.heap.size≤w.heap.size+1 by omega)
theorem Q4t (b off c:Nat) (l:List Sl) (w:World) (hbl:b < w.heap.size) (hc:∀i,i < l.length→∀j,j < Q0h.k→w.cell? ⟨b,off+i * Q0h.k+j,none⟩=(Q0h.cs (l.getD i Q0h.d))[j]?) (hl:l.length≤1048576):
  Calls Tryz.prog 112 #[tab (.slice (some ⟨b,off,none⟩) l.length c)] w fun e w'=> ∃g,e=.returned (tab (.slice (some ⟨g,0,none⟩) l.length l.length))∧Qfn w' w.heap.size (.slice (some ⟨g,0,none⟩) l.length l.length) l∧Below w.heap.size w w':=by
 obtain ⟨i0,hi,hz0,hz1,hz2⟩:=info_parts Q6l;have HC:=Q02 hc;clear hc;obtain ⟨W0,hW0⟩:∃W,((w.alloc (.cells #[.slice (some ⟨b,off,none⟩) l.length c] 89)).alloc (.cells #[.slice none 0 0] 32))=W:=⟨_,rfl⟩
 have hb_W0:Below w.heap.size w W0:=by rw [←hW0];exact (((Below.refl _ _).alloc (Kaq _) _).alloc (by simp <;> omega) _)
 have HB:=Q02 hb_W0;clear hb_W0
 have zct:w.heap.size < W0.heap.size:=by rw [←hW0];simp <;> omega
 have ct0:W0.cell? ⟨w.heap.size,0,none⟩=some (.slice (some ⟨b,off,none⟩) l.length c):=by rw [←hW0];simp [go_sem]
 have zcr:w.heap.size+1 < W0.heap.size:=by rw [←hW0];simp
 have cr0:W0.cell? ⟨w.heap.size+1,0,none⟩=some (.slice none 0 0):=by rw [←hW0];simp [go_sem]
 have fcr0:W0.frozen? ⟨w.heap.size+1,0,none⟩=false:=by rw [←hW0];simp [go_sem]
 have zcr0:=zcr;have hw00:w.heap.size≤W0.heap.size:=HB.out.size
 go_enter Tryz.func112,Tryz.ntmps112
 go_wp2_with (at_make;refine wpList_make_full _ rfl _ _ 30 rfl W0.heap.size 101 i0 (slot sl0) 5 Tryz.underlying30 hi hz0 hz1 _ _ _ _ l.length rfl rfl rfl rfl ?b2 ?b3 ?b4 ?_)
 case b2=> rw [hz2];omega
 case b3=> unfold maxLen;omega
 case b4=> simp
 intro w1 hown hgrow
 have hb:Below W0.heap.size W0 w1:=(Below.refl _ _).grown hgrow (Kaq _) (fun k h=> by cases h)
 have HBg:=Q02 hb
 have HO:Hid (w1.ownsRow W0.heap.size 101 5 (.slice (some ⟨W0.heap.size,0,none⟩) l.length l.length) l.length ((Q3k Q0h l 0).flatMap Q0h.cs)):=by unfold Hid;rw [Q7J,←Q3q Q0h (slot sl0) rfl];exact hown
 have zg:W0.heap.size < w1.heap.size:=(hown.lt _ rfl).2;clear hown hgrow;replace ct0:w1.cell? ⟨w.heap.size,0,none⟩=some (.slice (some ⟨b,off,none⟩) l.length c):=(hb.cell (p:=⟨w.heap.size,0,none⟩) zct).trans ct0;replace zct:w.heap.size < w1.heap.size:=Kbq zct hb.size;replace cr0:w1.cell? ⟨w.heap.size+1,0,none⟩=some (.slice none 0 0):=(hb.cell (p:=⟨w.heap.size+1,0,none⟩) zcr).trans cr0;replace fcr0:w1.frozen? ⟨w.heap.size+1,0,none⟩=false:=(hb.frozen (p:=⟨w.heap.size+1,0,none⟩) zcr).trans fcr0;replace zcr:w.heap.size+1 < w1.heap.size:=Kbq zcr hb.size
 replace HB:=Q02 (HB.out.trans (hb.mono HB.out.size));clear hb;obtain ⟨W2,hW2⟩:∃W,(w1.alloc (.cells #[.slice (some ⟨W0.heap.size,0,none⟩) l.length l.length] 32))=W:=⟨_,rfl⟩
 have hb_W2:Below w1.heap.size w1 W2:=by rw [←hW2];exact ((Below.refl _ _).alloc (Kaq _) _)
 replace ct0:W2.cell? ⟨w.heap.size,0,none⟩=some (.slice (some ⟨b,off,none⟩) l.length c):=(hb_W2.cell (p:=⟨w.heap.size,0,none⟩) zct).trans ct0;replace zct:w.heap.size < W2.heap.size:=Kbq zct hb_W2.size;replace cr0:W2.cell? ⟨w.heap.size+1,0,none⟩=some (.slice none 0 0):=(hb_W2.cell (p:=⟨w.heap.size+1,0,none⟩) zcr).trans cr0;replace fcr0:W2.frozen? ⟨w.heap.size+1,0,none⟩=false:=(hb_W2.frozen (p:=⟨w.heap.size+1,0,none⟩) zcr).trans fcr0;replace zcr:w.heap.size+1 < W2.heap.size:=Kbq zcr hb_W2.size;replace HO:=Q02 (Q03 HO.out hb_W2);replace HB:=Q02 (HB.out.trans (hb_W2.mono HB.out.size));clear hb_W2
 have zcs:w1.heap.size < W2.heap.size:=by rw [←hW2];simp
 have cs0:W2.cell? ⟨w1.heap.size,0,none⟩=some (.slice (some ⟨W0.heap.size,0,none⟩) l.length l.length):=by rw [←hW2];simp [go_sem]
 have b3:Hid (W2.heap[w1.heap.size]? =some (.cells #[.slice (some ⟨W0.heap.size,0,none⟩) l.length l.length] 32 (0,0))):=by rw [←hW2];exact World.alloc_heap_new w1 _
 have bR:Hid (W2.heap[w.heap.size+1]? =some (.cells #[.slice none 0 0] 32 (0,0))):=by
  have h:=World.alloc_heap_new (w.alloc (.cells #[.slice (some ⟨b,off,none⟩) l.length c] 89)) (.cells #[.slice none 0 0] 32)
  rw [hW0,World.size_alloc] at h
  exact ((by rw [←hW2];exact (Below.heap_alloc _ _ _ (by omega)):W2.heap[w.heap.size+1]? =w1.heap[w.heap.size+1]?)).trans ((HBg.out.block _ zcr0).trans h)
 have zs0:=zcs
 go_wp2
 go_loopw [14] (fun i wr=> ∃k:Nat,k≤l.length∧i=.int .i64 k∧Hid (wr.ownsRow W0.heap.size 101 5 (.slice (some ⟨W0.heap.size,0,none⟩) l.length l.length) l.length ((Q3k Q0h l k).flatMap Q0h.cs))∧Hid (wr.heap[w.heap.size+1]? =some (.cells #[.slice none 0 0] 32 (0,0)))∧Hid (wr.heap[w1.heap.size]? =some (.cells #[.slice (some ⟨W0.heap.size,0,none⟩) l.length l.length] 32 (0,0)))∧Hid (Below w.heap.size w wr)∧w1.heap.size < wr.heap.size)
  (fun i _=> l.length - (intOf i).toNat)
 case atStart=> exact ⟨0,Kcq _,rfl,HO,bR,b3,HB,zcs⟩
 case round=>
  clear HO bR b3 HB HBg ct0 cr0 fcr0 cs0 hW2 hW0 zct zcr zcs;obtain ⟨k,hk,rfl,HO,HR,HT,HBr,hsz⟩:=hrel
  by_cases hlt:k < l.length
  ·obtain ⟨s,hxy⟩:∃s,l.getD k sl0=s:=⟨_,rfl⟩
   have hcx:=RdL.slot (C:=w.heap.size) HC.out k hlt
   rw [hxy] at hcx
   have e0:=(HBr.out.cell (p:=⟨b,off+k * 5,none⟩) hbl).trans hcx.1;have e1:=(HBr.out.cell (p:=⟨b,off+k * 5+1,none⟩) hbl).trans hcx.2.1;have e2:=(HBr.out.cell (p:=⟨b,off+k * 5+2,none⟩) hbl).trans hcx.2.2.1;have e3:=(HBr.out.cell (p:=⟨b,off+k * 5+3,none⟩) hbl).trans hcx.2.2.2.1;have e4:=(HBr.out.cell (p:=⟨b,off+k * 5+4,none⟩) hbl).trans hcx.2.2.2.2
   have hk':(k:Int) < (l.length:Int):=by omega
   have HX:=Q02 hxy;clear hcx hxy;obtain ⟨W5,hW5⟩:∃W,wr.alloc (.cells (Q41 s) 165)=W:=⟨_,rfl⟩
   have hb5:Below wr.heap.size wr W5:=by rw [←hW5];exact (Below.refl _ _).alloc (Kaq _) _
   have hz5:wr.heap.size < W5.heap.size:=by rw [←hW5];simp
   have s0:W5.cell? ⟨wr.heap.size,0,none⟩=some (.bool s.u):=by rw [←hW5];simp [go_sem]
   have s1:W5.cell? ⟨wr.heap.size,1,none⟩=some (.int .i64 s.a):=by rw [←hW5];simp [go_sem]
   have s2:W5.cell? ⟨wr.heap.size,2,none⟩=some (.int .i64 s.p):=by rw [←hW5];simp [go_sem]
   have s3:W5.cell? ⟨wr.heap.size,3,none⟩=some (.int .i64 s.v):=by rw [←hW5];simp [go_sem]
   have s4:W5.cell? ⟨wr.heap.size,4,none⟩=some (.int .i64 s.t):=by rw [←hW5];simp [go_sem]
   have t3:W5.cell? ⟨w1.heap.size,0,none⟩=some (.slice (some ⟨W0.heap.size,0,none⟩) l.length l.length):=(hb5.cell (p:=⟨w1.heap.size,0,none⟩) hsz).trans (Q0j HT.out 0 _ rfl);have zt3:w1.heap.size < W5.heap.size:=Kbq hsz hb5.size;have Hb5:=Q02 hb5;have hown5:=Q03 HO.out hb5;have hso:=Qc7 s W5.drew
   have hln:((Q3k Q0h l k).flatMap Q0h.cs).length=l.length * 5:=by rw [Q0s,Q61 Q0h l k hk];rfl
   have Hown5:Hid (W5.ownsRow W0.heap.size 101 5 (.slice (some ⟨W0.heap.size,0,none⟩) l.length l.length) l.length ((Q3k Q0h l k).flatMap Q0h.cs)):=hown5;clear hown5 hb5
   go_wp2
   first|(go_region_with (first|(go_at_call 158;refine hso.mono ?_;rintro e w6 ⟨rfl,hb⟩;replace hb:Below W5.heap.size W5 w6:=(Below.drew (Below.refl _ _)).trans hb;have t36:=(hb.cell (p:=⟨w1.heap.size,0,none⟩) zt3).trans t3;have s60:=(hb.cell (p:=⟨wr.heap.size,0,none⟩) hz5).trans s0;have s61:=(hb.cell (p:=⟨wr.heap.size,1,none⟩) hz5).trans s1;have s62:=(hb.cell (p:=⟨wr.heap.size,2,none⟩) hz5).trans s2;have s63:=(hb.cell (p:=⟨wr.heap.size,3,none⟩) hz5).trans s3;have s64:=(hb.cell (p:=⟨wr.heap.size,4,none⟩) hz5).trans s4;have ho6:=Q03 Hown5.out hb;obtain ⟨u0,hu0⟩:∃u,w6.cell? ⟨W0.heap.size,k * 5,none⟩=some u:=⟨_,(ho6.cellAt (k * 5) (by omega)).trans (List.getElem?_eq_getElem (by omega))⟩;have hf0:=ho6.frozenAt (k * 5);obtain ⟨u1,hu1⟩:∃u,w6.cell? ⟨W0.heap.size,k * 5+1,none⟩=some u:=⟨_,(ho6.cellAt (k * 5+1) (by omega)).trans (List.getElem?_eq_getElem (by omega))⟩;have hf1:=ho6.frozenAt (k * 5+1);obtain ⟨u2,hu2⟩:∃u,w6.cell? ⟨W0.heap.size,k * 5+2,none⟩=some u:=⟨_,(ho6.cellAt (k * 5+2) (by omega)).trans (List.getElem?_eq_getElem (by omega))⟩;have hf2:=ho6.frozenAt (k * 5+2);obtain ⟨u3,hu3⟩:∃u,w6.cell? ⟨W0.heap.size,k * 5+3,none⟩=some u:=⟨_,(ho6.cellAt (k * 5+3) (by omega)).trans (List.getElem?_eq_getElem (by omega))⟩;have hf3:=ho6.frozenAt (k * 5+3);obtain ⟨u4,hu4⟩:∃u,w6.cell? ⟨W0.heap.size,k * 5+4,none⟩=some u:=⟨_,(ho6.cellAt (k * 5+4) (by omega)).trans (List.getElem?_eq_getElem (by omega))⟩;have hf4:=ho6.frozenAt (k * 5+4);have Hb6:=Q02 hb;have HO6:=Q02 ho6;clear hb ho6)))|fail
   all_goals have HR6:=Q02 (Q5x (k:=k) s (Kaq _) HO6.out (Below.refl W0.heap.size w6))
   all_goals have HX2:=Q02 (show (Q3k Q0h l k).set k s=Q3k Q0h l (k+1) by rw [←HX.out];exact Q8Z Q0h l k hlt)
   all_goals have Hb7:=Q02 (Hb5.out.trans (Hb6.out.mono Hb5.out.size))
   all_goals go_wp2
   all_goals go_roundw
   all_goals first|(simp [intOf];omega;done)|exact ⟨k+1,hlt,by go_num,(by have h:=HR6.out.1;rw [HX2.out] at h;exact h),(HR6.out.2.block _ zcr0).trans ((Hb7.out.block _ (by omega)).trans HR.out),((((((Below.heap_setCell _ _ _ _ (by simp;omega)).trans (Below.heap_setCell _ _ _ _ (by simp;omega))).trans (Below.heap_setCell _ _ _ _ (by simp;omega))).trans (Below.heap_setCell _ _ _ _ (by simp;omega))).trans (Below.heap_setCell _ _ _ _ (by simp;omega))).trans ((Hb7.out.block _ hsz).trans HT.out)),HBr.out.trans ((Hb7.out.mono HBr.out.size).trans (HR6.out.2.mono hw00)),Kbq hsz (Kdq Hb7.out.size HR6.out.2.size)⟩
  ·have e:k=l.length:=by omega
   subst e;have hrow:=HO.out
   rw [Q9B] at hrow
   have HRow:=Q02 hrow;clear hrow HO;have r1:=Q0j HR.out 0 _ rfl;have f1:=Q1X HR.out 0;have t3:=Q0j HT.out 0 _ rfl
   go_wp2
   refine bodyPost_ret (v:=tab (.slice (some ⟨W0.heap.size,0,none⟩) l.length l.length)) (by simp [results,Tryz.results112,go_sem,r1]) rfl ⟨_,rfl, ?_, ?_⟩
   ·exact Q04 (ownsRow_setCell_below HRow.out (show w.heap.size+1 < W0.heap.size from zcr0) _) hw00
   ·exact HBr.out.setCell (p:=⟨w.heap.size+1,0,none⟩) (by simp) _
def Q7z (n:Int):List Sl:=if 1≤n∧n≤16 then List.replicate n.toNat sl0 else []
def Qbn (n:Int):Bool:=decide (1≤n) && decide (n≤16)
theorem Qg3 (n:Int):(Q7z n).length≤16:=by
 unfold Q7z
 split
 ·rw [List.length_replicate];omega
 ·exact Kcq _
theorem Q6e (n:Int) (w:World):
  Calls Tryz.prog 172 #[.int .i64 n] w fun e w'=> ∃v,e=.returned (.tuple #[v,.bool (Qbn n)])∧InTb w.heap.size w'.heap.size w' v (Q7z n)∧Below w.heap.size w w':=by
 obtain ⟨i0,hi,hz0,hz1,hz2⟩:=info_parts Q6l;obtain ⟨W0,hW0⟩:∃W,(w.alloc (.cells #[.slice none 0 0] 32))=W:=⟨_,rfl⟩
 have hb_W0:Below w.heap.size w W0:=by rw [←hW0];exact ((Below.refl _ _).alloc (Kaq _) _)
 have HB:=Q02 hb_W0;clear hb_W0
 have zcr:w.heap.size < W0.heap.size:=by rw [←hW0];simp
 have cr0:W0.cell? ⟨w.heap.size,0,none⟩=some (.slice none 0 0):=by rw [←hW0];simp [go_sem]
 have fcr0:W0.frozen? ⟨w.heap.size,0,none⟩=false:=by rw [←hW0];simp [go_sem]
 by_cases hn:1≤n∧n≤16
 ·obtain ⟨m,rfl⟩:∃m:Nat,n=m:=⟨n.toNat,by omega⟩
  have HM:=Q02 (show Q7z (m:Int)=List.replicate m sl0 by unfold Q7z;rw [if_pos hn];simp)
  have HN:=Q02 (show Qbn (m:Int)=true by simp [Qbn];omega)
  have i1:¬((m:Int) < 1):=by omega
  have i2:¬(16 < (m:Int)):=by omega
  have zcr0:=zcr;have hw00:=HB.out.size
  go_enter Tryz.func172,Tryz.ntmps172
  go_wp2_with (at_make;refine wpList_make_full _ rfl _ _ 30 rfl W0.heap.size 101 i0 (slot sl0) 5 Tryz.underlying30 hi hz0 hz1 _ _ _ _ m rfl rfl rfl rfl ?b2 ?b3 ?b4 ?_)
  case b2=> omega
  case b3=> unfold maxLen;omega
  intro w1 hown hgrow
  have hb:Below W0.heap.size W0 w1:=(Below.refl _ _).grown hgrow (Kaq _) (fun k h=> by cases h)
  have HO:Hid (Qfn w1 W0.heap.size (.slice (some ⟨W0.heap.size,0,none⟩) m m) (List.replicate m sl0)):=by
   unfold Hid Qfn ownL
   rw [List.length_replicate]
   show w1.ownsRow _ _ _ _ m ((List.replicate m Q0h.d).flatMap Q0h.cs)
   rw [←Q3q Q0h (slot sl0) rfl];exact hown
  have c0:=cr0;clear hown hgrow c0;replace cr0:w1.cell? ⟨w.heap.size,0,none⟩=some (.slice none 0 0):=(hb.cell (p:=⟨w.heap.size,0,none⟩) zcr).trans cr0;replace fcr0:w1.frozen? ⟨w.heap.size,0,none⟩=false:=(hb.frozen (p:=⟨w.heap.size,0,none⟩) zcr).trans fcr0;replace zcr:w.heap.size < w1.heap.size:=Kbq zcr hb.size;replace HB:=Q02 (HB.out.trans (hb.mono HB.out.size));clear hb
  go_wp2
  refine bodyPost_ret (v:=.tuple #[tab (.slice (some ⟨W0.heap.size,0,none⟩) m m),.bool true]) (by simp [results,Tryz.results172,go_sem,cr0]) rfl ⟨_,by rw [HN.out],⟨_,rfl, ?_⟩, ?_⟩
  ·rw [HM.out];exact InRow.of (Q04 (ownsRow_setCell_below HO.out (show w.heap.size < W0.heap.size from zcr0) _) hw00)
  ·exact HB.out.setCell (p:=⟨w.heap.size,0,none⟩) (Kaq _) _
 ·skip
  have HM:=Q02 (show Q7z n=[] by unfold Q7z;rw [if_neg hn])
  have HN:=Q02 (show Qbn n=false by simp [Qbn];omega)
  by_cases h1:n < 1
  ·skip
   clear hn
   go_enter Tryz.func172,Tryz.ntmps172
   go_wp2
   refine bodyPost_ret (v:=.tuple #[tab (.slice none 0 0),.bool false]) (by simp [results,Tryz.results172,go_sem,cr0]) rfl ⟨_,by rw [HN.out],⟨_,rfl, ?_⟩, ?_⟩
   ·rw [HM.out];exact InRow.of (World.ownsRow_nil _ _ _ _)
   ·exact HB.out.setCell (p:=⟨w.heap.size,0,none⟩) (Kaq _) _
  ·have h2:16 < n:=by omega
   clear hn
   go_enter Tryz.func172,Tryz.ntmps172
   go_wp2
   refine bodyPost_ret (v:=.tuple #[tab (.slice none 0 0),.bool false]) (by simp [results,Tryz.results172,go_sem,cr0]) rfl ⟨_,by rw [HN.out],⟨_,rfl, ?_⟩, ?_⟩
   ·rw [HM.out];exact InRow.of (World.ownsRow_nil _ _ _ _)
   ·exact HB.out.setCell (p:=⟨w.heap.size,0,none⟩) (Kaq _) _
theorem Q6h (n:Int) (w:World):
  Calls Tryz.prog 98 #[.int .i64 n] w fun e w'=> ∃v,e=.returned (.tuple #[v,.bool (Qbn n)])∧InTb w.heap.size w'.heap.size w' v (Q7z n)∧Below w.heap.size w w':=by
 obtain ⟨W0,hW0⟩:∃W,(w.alloc (.cells #[.slice none 0 0] 32))=W:=⟨_,rfl⟩
 have hb_W0:Below w.heap.size w W0:=by rw [←hW0];exact ((Below.refl _ _).alloc (Kaq _) _)
 have HB:=Q02 hb_W0;clear hb_W0
 have zcr:w.heap.size < W0.heap.size:=by rw [←hW0];simp
 have cr0:W0.cell? ⟨w.heap.size,0,none⟩=some (.slice none 0 0):=by rw [←hW0];simp [go_sem]
 have fcr0:W0.frozen? ⟨w.heap.size,0,none⟩=false:=by rw [←hW0];simp [go_sem]
 by_cases hn:1≤n∧n≤16
 ·obtain ⟨m,rfl⟩:∃m:Nat,n=m:=⟨n.toNat,by omega⟩
  have HM:=Q02 (show Q7z (m:Int)=List.replicate m sl0 by unfold Q7z;rw [if_pos hn];simp)
  have HN:=Q02 (show Qbn (m:Int)=true by simp [Qbn];omega)
  have i1:¬((m:Int) < 1):=by omega
  have i2:¬(16 < (m:Int)):=by omega
  have zcr0:=zcr;have hw00:=HB.out.size
  have hm:m≤1048576:=by omega
  go_enter Tryz.func98,Tryz.ntmps98
  go_wp2_with fail
  refine (Q3L m W0 hm).mono ?_
  rintro e v1 ⟨g,rfl,hown,hb⟩
  have HO:=Q02 hown;clear hown;replace cr0:v1.cell? ⟨w.heap.size,0,none⟩=some (.slice none 0 0):=(hb.cell (p:=⟨w.heap.size,0,none⟩) zcr).trans cr0;replace fcr0:v1.frozen? ⟨w.heap.size,0,none⟩=false:=(hb.frozen (p:=⟨w.heap.size,0,none⟩) zcr).trans fcr0;replace zcr:w.heap.size < v1.heap.size:=Kbq zcr hb.size;replace HB:=Q02 (HB.out.trans (hb.mono HB.out.size));clear hb
  have hpt:=Q4t g 0 m (List.replicate m sl0) v1 (HO.out.lt g rfl).2 (Q1M (by have h:=HO.out;unfold ownL at h;rw [List.length_replicate] at h;exact h) (by simp)) (by simp;omega)
  rw [List.length_replicate] at hpt
  have hsv:W0.heap.size≤v1.heap.size:=by have:=HO.out.lt g rfl;omega
  go_wp2_with fail
  refine (hpt).mono ?_
  rintro e v2 ⟨g2,rfl,hown2,hb⟩
  have HO2:=Q02 hown2;clear hown2;replace cr0:v2.cell? ⟨w.heap.size,0,none⟩=some (.slice none 0 0):=(hb.cell (p:=⟨w.heap.size,0,none⟩) zcr).trans cr0;replace fcr0:v2.frozen? ⟨w.heap.size,0,none⟩=false:=(hb.frozen (p:=⟨w.heap.size,0,none⟩) zcr).trans fcr0;replace zcr:w.heap.size < v2.heap.size:=Kbq zcr hb.size;replace HO:=Q02 (Q03 HO.out hb);replace HB:=Q02 (HB.out.trans (hb.mono HB.out.size));clear hb;clear hpt
  go_wp2
  refine bodyPost_ret (v:=.tuple #[tab (.slice (some ⟨g2,0,none⟩) m m),.bool true]) (by simp [results,Tryz.results98,go_sem,cr0]) rfl ⟨_,by rw [HN.out],⟨_,rfl, ?_⟩, ?_⟩
  ·rw [HM.out];exact InRow.of (Q04 (ownsRow_setCell_below HO2.out (show w.heap.size < v1.heap.size by omega) _) (by omega))
  ·exact HB.out.setCell (p:=⟨w.heap.size,0,none⟩) (Kaq _) _
 ·skip
  have HM:=Q02 (show Q7z n=[] by unfold Q7z;rw [if_neg hn])
  have HN:=Q02 (show Qbn n=false by simp [Qbn];omega)
  by_cases h1:n < 1
  ·skip
   clear hn
   go_enter Tryz.func98,Tryz.ntmps98
   go_wp2
   refine bodyPost_ret (v:=.tuple #[tab (.slice none 0 0),.bool false]) (by simp [results,Tryz.results98,go_sem,cr0]) rfl ⟨_,by rw [HN.out],⟨_,rfl, ?_⟩, ?_⟩
   ·rw [HM.out];exact InRow.of (World.ownsRow_nil _ _ _ _)
   ·exact HB.out.setCell (p:=⟨w.heap.size,0,none⟩) (Kaq _) _
  ·have h2:16 < n:=by omega
   clear hn
   go_enter Tryz.func98,Tryz.ntmps98
   go_wp2
   refine bodyPost_ret (v:=.tuple #[tab (.slice none 0 0),.bool false]) (by simp [results,Tryz.results98,go_sem,cr0]) rfl ⟨_,by rw [HN.out],⟨_,rfl, ?_⟩, ?_⟩
   ·rw [HM.out];exact InRow.of (World.ownsRow_nil _ _ _ _)
   ·exact HB.out.setCell (p:=⟨w.heap.size,0,none⟩) (Kaq _) _
theorem QdQ {l:List Sl} {a p:Int} (h:(Q1o l a p).2=false):Q8m l a p=sl0:=by unfold Q8m;rw [h];rfl
theorem Qbz {l:List Sl} {a p:Int} {k:Nat} (h:Q1o l a p=((k:Int),true)):Q8m l a p=l.getD k sl0:=by unfold Q8m;rw [h];simp
theorem Qgg (b off c:Nat) (l:List Sl) (a p:Int) (w:World) (hn:0 < l.length) (hl:l.length≤1048576) (hf:Q0f a p=true) (hbl:b < w.heap.size) (hc:∀i,i < l.length→∀j,j < Q0h.k→w.cell? ⟨b,off+i * Q0h.k+j,none⟩=(Q0h.cs (l.getD i Q0h.d))[j]?):
  Calls Tryz.prog 105 #[tab (.slice (some ⟨b,off,none⟩) l.length c),Q9T a p] w fun e w'=> e=.returned (.tuple #[slot (Q8m l a p),.bool (Q1o l a p).2])∧Below w.heap.size w w':=by
 have HC:=Q02 hc;clear hc;obtain ⟨W0,hW0⟩:∃W,(((w.alloc (.cells #[.slice (some ⟨b,off,none⟩) l.length c] 89)).alloc (.cells #[.int .i64 a,.int .i64 p] 36)).alloc (.cells #[.bool false,.int .i64 0,.int .i64 0,.int .i64 0,.int .i64 0] 165))=W:=⟨_,rfl⟩
 have hb_W0:Below w.heap.size w W0:=by rw [←hW0];exact ((((Below.refl _ _).alloc (Kaq _) _).alloc (by simp <;> omega) _).alloc (by simp <;> omega) _)
 have HB:=Q02 hb_W0;clear hb_W0
 have zct:w.heap.size < W0.heap.size:=by rw [←hW0];simp <;> omega
 have ct0:W0.cell? ⟨w.heap.size,0,none⟩=some (.slice (some ⟨b,off,none⟩) l.length c):=by rw [←hW0];simp [go_sem]
 have zcf:w.heap.size+1 < W0.heap.size:=by rw [←hW0];simp <;> omega
 obtain ⟨cf0,cf1⟩:=alc2v1v3 hW0
 have zcr:w.heap.size+1+1 < W0.heap.size:=by rw [←hW0];simp
 obtain ⟨cr0,cr1,cr2,cr3,cr4⟩:=alc5v2v3 hW0;obtain ⟨fcr0,fcr1,fcr2,fcr3,fcr4⟩:=alf5v2v3 hW0
 have hat:=Q64 b off c l a p W0 hn hl hf (Kbq hbl HB.out.size) (fun i hi j hj=> (HB.out.cell (p:=⟨b,off+i * Q0h.k+j,none⟩) hbl).trans (HC.out i hi j hj))
 rcases Q23 l hn a p with hE|⟨k,hk,⟨hE,_⟩|⟨hE,_⟩⟩
 ·skip
  have HM:=Q02 (QdQ (l:=l) (a:=a) (p:=p) (by rw [hE]))
  have HE:=Q02 hE
  rw [hE] at hat
  clear hE
  go_enter Tryz.func105,Tryz.ntmps105
  go_wp2_with fail
  refine (hat).mono ?_
  rintro e v1 ⟨rfl,hb⟩
  replace ct0:v1.cell? ⟨w.heap.size,0,none⟩=some (.slice (some ⟨b,off,none⟩) l.length c):=(hb.cell (p:=⟨w.heap.size,0,none⟩) zct).trans ct0;replace zct:w.heap.size < v1.heap.size:=Kbq zct hb.size;replace cf0:v1.cell? ⟨w.heap.size+1,0,none⟩=some (.int .i64 a):=(hb.cell (p:=⟨w.heap.size+1,0,none⟩) zcf).trans cf0;replace cf1:v1.cell? ⟨w.heap.size+1,1,none⟩=some (.int .i64 p):=(hb.cell (p:=⟨w.heap.size+1,1,none⟩) zcf).trans cf1;replace zcf:w.heap.size+1 < v1.heap.size:=Kbq zcf hb.size
  replace cr0:v1.cell? ⟨w.heap.size+1+1,0,none⟩=some (.bool false):=(hb.cell (p:=⟨w.heap.size+1+1,0,none⟩) zcr).trans cr0;replace cr1:v1.cell? ⟨w.heap.size+1+1,1,none⟩=some (.int .i64 0):=(hb.cell (p:=⟨w.heap.size+1+1,1,none⟩) zcr).trans cr1;replace cr2:v1.cell? ⟨w.heap.size+1+1,2,none⟩=some (.int .i64 0):=(hb.cell (p:=⟨w.heap.size+1+1,2,none⟩) zcr).trans cr2;replace cr3:v1.cell? ⟨w.heap.size+1+1,3,none⟩=some (.int .i64 0):=(hb.cell (p:=⟨w.heap.size+1+1,3,none⟩) zcr).trans cr3
  replace cr4:v1.cell? ⟨w.heap.size+1+1,4,none⟩=some (.int .i64 0):=(hb.cell (p:=⟨w.heap.size+1+1,4,none⟩) zcr).trans cr4;replace fcr0:v1.frozen? ⟨w.heap.size+1+1,0,none⟩=false:=(hb.frozen (p:=⟨w.heap.size+1+1,0,none⟩) zcr).trans fcr0;replace fcr1:v1.frozen? ⟨w.heap.size+1+1,1,none⟩=false:=(hb.frozen (p:=⟨w.heap.size+1+1,1,none⟩) zcr).trans fcr1;replace fcr2:v1.frozen? ⟨w.heap.size+1+1,2,none⟩=false:=(hb.frozen (p:=⟨w.heap.size+1+1,2,none⟩) zcr).trans fcr2;replace fcr3:v1.frozen? ⟨w.heap.size+1+1,3,none⟩=false:=(hb.frozen (p:=⟨w.heap.size+1+1,3,none⟩) zcr).trans fcr3
  replace fcr4:v1.frozen? ⟨w.heap.size+1+1,4,none⟩=false:=(hb.frozen (p:=⟨w.heap.size+1+1,4,none⟩) zcr).trans fcr4;replace zcr:w.heap.size+1+1 < v1.heap.size:=Kbq zcr hb.size;replace HB:=Q02 (HB.out.trans (hb.mono HB.out.size));clear hb;clear hat
  go_wp2
  refine bodyPost_ret (v:=.tuple #[slot sl0,.bool false]) (by simp [results,Tryz.results105,go_sem,cr0,cr1,cr2,cr3,cr4]) rfl ⟨by rw [HM.out,HE.out],Q2v (s:=sl0) HB.out (by omega)⟩
 ·skip
  have HM:=Q02 (QdQ (l:=l) (a:=a) (p:=p) (by rw [hE]))
  have HE:=Q02 hE
  rw [hE] at hat
  clear hE
  go_enter Tryz.func105,Tryz.ntmps105
  go_wp2_with fail
  refine (hat).mono ?_
  rintro e v1 ⟨rfl,hb⟩
  replace ct0:v1.cell? ⟨w.heap.size,0,none⟩=some (.slice (some ⟨b,off,none⟩) l.length c):=(hb.cell (p:=⟨w.heap.size,0,none⟩) zct).trans ct0;replace zct:w.heap.size < v1.heap.size:=Kbq zct hb.size;replace cf0:v1.cell? ⟨w.heap.size+1,0,none⟩=some (.int .i64 a):=(hb.cell (p:=⟨w.heap.size+1,0,none⟩) zcf).trans cf0;replace cf1:v1.cell? ⟨w.heap.size+1,1,none⟩=some (.int .i64 p):=(hb.cell (p:=⟨w.heap.size+1,1,none⟩) zcf).trans cf1;replace zcf:w.heap.size+1 < v1.heap.size:=Kbq zcf hb.size
  replace cr0:v1.cell? ⟨w.heap.size+1+1,0,none⟩=some (.bool false):=(hb.cell (p:=⟨w.heap.size+1+1,0,none⟩) zcr).trans cr0;replace cr1:v1.cell? ⟨w.heap.size+1+1,1,none⟩=some (.int .i64 0):=(hb.cell (p:=⟨w.heap.size+1+1,1,none⟩) zcr).trans cr1;replace cr2:v1.cell? ⟨w.heap.size+1+1,2,none⟩=some (.int .i64 0):=(hb.cell (p:=⟨w.heap.size+1+1,2,none⟩) zcr).trans cr2;replace cr3:v1.cell? ⟨w.heap.size+1+1,3,none⟩=some (.int .i64 0):=(hb.cell (p:=⟨w.heap.size+1+1,3,none⟩) zcr).trans cr3
  replace cr4:v1.cell? ⟨w.heap.size+1+1,4,none⟩=some (.int .i64 0):=(hb.cell (p:=⟨w.heap.size+1+1,4,none⟩) zcr).trans cr4;replace fcr0:v1.frozen? ⟨w.heap.size+1+1,0,none⟩=false:=(hb.frozen (p:=⟨w.heap.size+1+1,0,none⟩) zcr).trans fcr0;replace fcr1:v1.frozen? ⟨w.heap.size+1+1,1,none⟩=false:=(hb.frozen (p:=⟨w.heap.size+1+1,1,none⟩) zcr).trans fcr1;replace fcr2:v1.frozen? ⟨w.heap.size+1+1,2,none⟩=false:=(hb.frozen (p:=⟨w.heap.size+1+1,2,none⟩) zcr).trans fcr2;replace fcr3:v1.frozen? ⟨w.heap.size+1+1,3,none⟩=false:=(hb.frozen (p:=⟨w.heap.size+1+1,3,none⟩) zcr).trans fcr3
  replace fcr4:v1.frozen? ⟨w.heap.size+1+1,4,none⟩=false:=(hb.frozen (p:=⟨w.heap.size+1+1,4,none⟩) zcr).trans fcr4;replace zcr:w.heap.size+1+1 < v1.heap.size:=Kbq zcr hb.size;replace HB:=Q02 (HB.out.trans (hb.mono HB.out.size));clear hb;clear hat
  go_wp2
  refine bodyPost_ret (v:=.tuple #[slot sl0,.bool false]) (by simp [results,Tryz.results105,go_sem,cr0,cr1,cr2,cr3,cr4]) rfl ⟨by rw [HM.out,HE.out],Q2v (s:=sl0) HB.out (by omega)⟩
 ·skip
  have HM:=Q02 (Qbz hE);have HE:=Q02 hE
  rw [hE] at hat
  clear hE;have hcx:=RdL.slot (C:=w.heap.size) HC.out k hk;obtain ⟨s,hxy⟩:∃s,l.getD k sl0=s:=⟨_,rfl⟩
  rw [hxy] at hcx HM
  clear hxy
  have hk':(k:Int) < (l.length:Int):=by omega
  go_enter Tryz.func105,Tryz.ntmps105
  go_wp2_with fail
  refine (hat).mono ?_
  rintro e v1 ⟨rfl,hb⟩
  replace ct0:v1.cell? ⟨w.heap.size,0,none⟩=some (.slice (some ⟨b,off,none⟩) l.length c):=(hb.cell (p:=⟨w.heap.size,0,none⟩) zct).trans ct0;replace zct:w.heap.size < v1.heap.size:=Kbq zct hb.size;replace cf0:v1.cell? ⟨w.heap.size+1,0,none⟩=some (.int .i64 a):=(hb.cell (p:=⟨w.heap.size+1,0,none⟩) zcf).trans cf0;replace cf1:v1.cell? ⟨w.heap.size+1,1,none⟩=some (.int .i64 p):=(hb.cell (p:=⟨w.heap.size+1,1,none⟩) zcf).trans cf1;replace zcf:w.heap.size+1 < v1.heap.size:=Kbq zcf hb.size
  replace cr0:v1.cell? ⟨w.heap.size+1+1,0,none⟩=some (.bool false):=(hb.cell (p:=⟨w.heap.size+1+1,0,none⟩) zcr).trans cr0;replace cr1:v1.cell? ⟨w.heap.size+1+1,1,none⟩=some (.int .i64 0):=(hb.cell (p:=⟨w.heap.size+1+1,1,none⟩) zcr).trans cr1;replace cr2:v1.cell? ⟨w.heap.size+1+1,2,none⟩=some (.int .i64 0):=(hb.cell (p:=⟨w.heap.size+1+1,2,none⟩) zcr).trans cr2;replace cr3:v1.cell? ⟨w.heap.size+1+1,3,none⟩=some (.int .i64 0):=(hb.cell (p:=⟨w.heap.size+1+1,3,none⟩) zcr).trans cr3
  replace cr4:v1.cell? ⟨w.heap.size+1+1,4,none⟩=some (.int .i64 0):=(hb.cell (p:=⟨w.heap.size+1+1,4,none⟩) zcr).trans cr4;replace fcr0:v1.frozen? ⟨w.heap.size+1+1,0,none⟩=false:=(hb.frozen (p:=⟨w.heap.size+1+1,0,none⟩) zcr).trans fcr0;replace fcr1:v1.frozen? ⟨w.heap.size+1+1,1,none⟩=false:=(hb.frozen (p:=⟨w.heap.size+1+1,1,none⟩) zcr).trans fcr1;replace fcr2:v1.frozen? ⟨w.heap.size+1+1,2,none⟩=false:=(hb.frozen (p:=⟨w.heap.size+1+1,2,none⟩) zcr).trans fcr2;replace fcr3:v1.frozen? ⟨w.heap.size+1+1,3,none⟩=false:=(hb.frozen (p:=⟨w.heap.size+1+1,3,none⟩) zcr).trans fcr3
  replace fcr4:v1.frozen? ⟨w.heap.size+1+1,4,none⟩=false:=(hb.frozen (p:=⟨w.heap.size+1+1,4,none⟩) zcr).trans fcr4;replace zcr:w.heap.size+1+1 < v1.heap.size:=Kbq zcr hb.size;replace HB:=Q02 (HB.out.trans (hb.mono HB.out.size));clear hb;have e0:=(HB.out.cell (p:=⟨b,off+k * 5,none⟩) hbl).trans hcx.1;have e1:=(HB.out.cell (p:=⟨b,off+k * 5+1,none⟩) hbl).trans hcx.2.1;have e2:=(HB.out.cell (p:=⟨b,off+k * 5+2,none⟩) hbl).trans hcx.2.2.1;have e3:=(HB.out.cell (p:=⟨b,off+k * 5+3,none⟩) hbl).trans hcx.2.2.2.1;have e4:=(HB.out.cell (p:=⟨b,off+k * 5+4,none⟩) hbl).trans hcx.2.2.2.2;clear hat hcx
  go_wp2
  refine bodyPost_ret (v:=.tuple #[slot s,.bool true]) (by simp [results,Tryz.results105,go_sem,cr0,cr1,cr2,cr3,cr4]) rfl ⟨by rw [HM.out,HE.out],Q2v (s:=s) HB.out (by omega)⟩
theorem Q4i (W:World) (B j:Nat) (v:Value):Stp B (B+1) W (W.setCell ⟨B,j,none⟩ v):=by
 have h:=(Below.refl B W).setCell (p:=⟨B,j,none⟩) (Kaq _) v
 exact ⟨h.os,h.tape,h.output,h.size,fun k hk hn=> Below.heap_setCell W ⟨B,j,none⟩ v k (by simp;omega)⟩
theorem Qig:AppOk Q0h 30 101:=⟨Tryz.underlying30,⟨_,_,Q6l,rfl,by decide⟩,by decide,fun a u hu=> by
 simp [Q0h] at hu;rcases hu with rfl|rfl|rfl|rfl|rfl <;> rfl⟩
theorem Stp.cell {lo hi b j:Nat} {w w':World} {u:Value} (s:Stp lo hi w w') (h:w.cell? ⟨b,j,none⟩=some u) (hb:b < w.heap.size) (hd:b < lo∨hi≤b):w'.cell? ⟨b,j,none⟩=some u:=by
 have:=s.block b hb hd
 simp only [World.cell?,this] at h ⊢;exact h
theorem Stp.frozen {lo hi b j:Nat} {w w':World} (s:Stp lo hi w w') (h:w.frozen? ⟨b,j,none⟩=false) (hb:b < w.heap.size) (hd:b < lo∨hi≤b):w'.frozen? ⟨b,j,none⟩=false:=by
 have:=s.block b hb hd
 simp only [World.frozen?,this] at h ⊢;exact h
theorem Q6n (W:World) (B k:Nat) (s:Sl):Stp B (B+1) W (((((W.setCell ⟨B,k * 5,none⟩ (.bool s.u)).setCell ⟨B,k * 5+1,none⟩ (.int .i64 s.a)).setCell ⟨B,k * 5+2,none⟩ (.int .i64 s.p)).setCell ⟨B,k * 5+3,none⟩ (.int .i64 s.v)).setCell ⟨B,k * 5+4,none⟩ (.int .i64 s.t)):=
 ((((Q4i W B _ _).trans (Q4i _ B _ _)).trans (Q4i _ B _ _)).trans (Q4i _ B _ _)).trans (Q4i _ B _ _)
theorem Q4W (b off c:Nat) (l:List Sl) (w:World) (hbl:b < w.heap.size) (hc:∀i,i < l.length→∀j,j < Q0h.k→w.cell? ⟨b,off+i * Q0h.k+j,none⟩=(Q0h.cs (l.getD i Q0h.d))[j]?) (hl:l.length≤1048576):
  Calls Tryz.prog 170 #[tab (.slice (some ⟨b,off,none⟩) l.length c)] w fun e w'=> ∃o' c',e=.returned (tab (.slice o' l.length c'))∧Qfn w' w.heap.size (.slice o' l.length c') l∧Below w.heap.size w w':=by
 have HC:=Q02 hc;clear hc;obtain ⟨W0,hW0⟩:∃W,((w.alloc (.cells #[.slice (some ⟨b,off,none⟩) l.length c] 32)).alloc (.cells #[.slice none 0 0] 32))=W:=⟨_,rfl⟩
 have hb_W0:Below w.heap.size w W0:=by rw [←hW0];exact (((Below.refl _ _).alloc (Kaq _) _).alloc (by simp <;> omega) _)
 have HB:=Q02 hb_W0;clear hb_W0
 have zct:w.heap.size < W0.heap.size:=by rw [←hW0];simp <;> omega
 have ct0:W0.cell? ⟨w.heap.size,0,none⟩=some (.slice (some ⟨b,off,none⟩) l.length c):=by rw [←hW0];simp [go_sem]
 have zcr:w.heap.size+1 < W0.heap.size:=by rw [←hW0];simp
 have cr0:W0.cell? ⟨w.heap.size+1,0,none⟩=some (.slice none 0 0):=by rw [←hW0];simp [go_sem]
 have fcr0:W0.frozen? ⟨w.heap.size+1,0,none⟩=false:=by rw [←hW0];simp [go_sem]
 have HZ:=Q02 zcr;have hw00:=HB.out.size;obtain ⟨W1,hW1⟩:∃W,W0.alloc (.cells #[] 101)=W:=⟨_,rfl⟩
 have F1:Hid (ownL Q0h 101 W1 W0.heap.size (.slice (some ⟨W0.heap.size,0,none⟩) 0 0) []):=by rw [←hW1];exact Q3d (L:=Q0h) W0 _
 have hb_W1:Below W0.heap.size W0 W1:=by rw [←hW1];exact (Below.refl _ _).alloc (Kaq _) _
 replace ct0:W1.cell? ⟨w.heap.size,0,none⟩=some (.slice (some ⟨b,off,none⟩) l.length c):=(hb_W1.cell (p:=⟨w.heap.size,0,none⟩) zct).trans ct0;replace zct:w.heap.size < W1.heap.size:=Kbq zct hb_W1.size;replace cr0:W1.cell? ⟨w.heap.size+1,0,none⟩=some (.slice none 0 0):=(hb_W1.cell (p:=⟨w.heap.size+1,0,none⟩) zcr).trans cr0;replace fcr0:W1.frozen? ⟨w.heap.size+1,0,none⟩=false:=(hb_W1.frozen (p:=⟨w.heap.size+1,0,none⟩) zcr).trans fcr0;replace zcr:w.heap.size+1 < W1.heap.size:=Kbq zcr hb_W1.size;replace HB:=Q02 (HB.out.trans (hb_W1.mono HB.out.size));clear hb_W1
 have hsz1:W0.heap.size≤W1.heap.size:=by rw [←hW1];simp
 have rdl:Hid (RdL Q0h w.heap.size W1 (some ⟨b,off,none⟩) l):=.inr ⟨b,off,rfl,hbl,fun i hi j hj=> (HB.out.cell (p:=⟨b,off+i * Q0h.k+j,none⟩) hbl).trans (HC.out i hi j hj)⟩
 go_enter Tryz.func170,Tryz.ntmps170
 go_wp2_with (at_builtin;refine Q07 Qig rfl _ _ rfl W0.heap.size _ [] rfl F1.out (some ⟨b,off,none⟩) c w.heap.size l l.length rfl rfl (fun h=> by cases h) rdl.out ?c1 ?c2 ?_)
 case c1=> simp;omega
 case c2=> exact hsz1
 intro v2 w2 hv2 hg2 _
 (try rw [List.nil_append] at hv2)
 have hb:Below W0.heap.size W1 w2:=(Below.refl _ _).grown hg2 hsz1 (fun q h=> (F1.out.lt q h).1)
 have HO:=Q02 hv2;obtain ⟨o2,c2,hve,_⟩:=ownL.open (L:=Q0h) hv2;subst hve;have cr02:w2.cell? ⟨w.heap.size+1,0,none⟩=some (.slice none 0 0):=(hb.cell (p:=⟨w.heap.size+1,0,none⟩) HZ.out).trans cr0;have fcr02:w2.frozen? ⟨w.heap.size+1,0,none⟩=false:=(hb.frozen (p:=⟨w.heap.size+1,0,none⟩) HZ.out).trans fcr0;have HB2:=Q02 (HB.out.trans (hb.mono hw00));clear hv2 hg2 hb F1 cr0 fcr0
 go_wp2
 refine bodyPost_ret (v:=tab (.slice o2 l.length c2)) (by simp [results,Tryz.results170,go_sem,cr02]) rfl ⟨_,_,rfl, ?_, ?_⟩
 ·exact Q04 (ownsRow_setCell_below HO.out (show w.heap.size+1 < W0.heap.size from HZ.out) _) hw00
 ·exact HB2.out.setCell (p:=⟨w.heap.size+1,0,none⟩) (by simp) _
theorem Qgr {l:List Sl} {a p v t:Int} (h:(Q1o l a p).1 < 0):Q6j l a p v t=l:=by unfold Q6j;rw [if_neg (by omega)]
theorem Qfe {l:List Sl} {a p v t:Int} {k:Nat} (h:(Q1o l a p).1=(k:Int)):Q6j l a p v t=l.set k ⟨true,a,p,v,t⟩:=by unfold Q6j;rw [if_pos (by omega),h];simp
theorem Qcp (l:List Sl) (hn:0 < l.length) (a p:Int):(Q1o l a p).1= -1∨∃k,k < l.length∧(Q1o l a p).1=(k:Int):=by
 rcases Q23 l hn a p with e|⟨k,hk,⟨e,_⟩|⟨e,_⟩⟩
 ·exact .inl (by rw [e])
 ·exact .inr ⟨k,hk,by rw [e]⟩
 ·exact .inr ⟨k,hk,by rw [e]⟩
theorem Q5v (b off c:Nat) (l:List Sl) (a p v t:Int) (w:World) (hn:0 < l.length) (hl:l.length≤1048576) (hf:Q0f a p=true) (hbl:b < w.heap.size) (hc:∀i,i < l.length→∀j,j < Q0h.k→w.cell? ⟨b,off+i * Q0h.k+j,none⟩=(Q0h.cs (l.getD i Q0h.d))[j]?):
  Calls Tryz.prog 166 #[tab (.slice (some ⟨b,off,none⟩) l.length c),Q9T a p,.int .i64 v,.int .i64 t] w fun e w'=> ∃b' off' c',e=.returned (.tuple #[tab (.slice (some ⟨b',off',none⟩) l.length c'),.bool (decide (0≤(Q1o l a p).1))])∧b' < w'.heap.size∧(∀i,i < (Q6j l a p v t).length→∀j,j < Q0h.k→w'.cell? ⟨b',off'+i * Q0h.k+j,none⟩=(Q0h.cs ((Q6j l a p v t).getD i Q0h.d))[j]?)∧Below w.heap.size w w'∧(b'=b∨w.heap.size≤b'):=by
 have HC:=Q02 hc;clear hc;obtain ⟨W0,hW0⟩:∃W,(((w.alloc (.cells #[.slice (some ⟨b,off,none⟩) l.length c] 32)).alloc (.cells #[.int .i64 a,.int .i64 p] 36)).alloc (.cells #[.slice none 0 0] 32))=W:=⟨_,rfl⟩
 have hb_W0:Below w.heap.size w W0:=by rw [←hW0];exact ((((Below.refl _ _).alloc (Kaq _) _).alloc (by simp <;> omega) _).alloc (by simp <;> omega) _)
 have HB:=Q02 hb_W0;clear hb_W0
 have zct:w.heap.size < W0.heap.size:=by rw [←hW0];simp <;> omega
 have ct0:W0.cell? ⟨w.heap.size,0,none⟩=some (.slice (some ⟨b,off,none⟩) l.length c):=by rw [←hW0];simp [go_sem]
 have zcf:w.heap.size+1 < W0.heap.size:=by rw [←hW0];simp <;> omega
 obtain ⟨cf0,cf1⟩:=alc2v1v3 hW0
 have zcr:w.heap.size+1+1 < W0.heap.size:=by rw [←hW0];simp
 have cr0:W0.cell? ⟨w.heap.size+1+1,0,none⟩=some (.slice none 0 0):=by rw [←hW0];simp [go_sem]
 have fcr0:W0.frozen? ⟨w.heap.size+1+1,0,none⟩=false:=by rw [←hW0];simp [go_sem]
 have hat:=Qb5 (some ⟨b,off,none⟩) c l a p W0 (.inr ⟨b,off,rfl,Kbq hbl HB.out.size,(fun i hi j hj=> (HB.out.cell (p:=⟨b,off+i * Q0h.k+j,none⟩) hbl).trans (HC.out i hi j hj))⟩) hn hl hf
 obtain ⟨E,hE⟩:∃E,Q1o l a p=E:=⟨_,rfl⟩;have HZ:=Q02 zcr;have hw00:=HB.out.size
 rcases Qcp l hn a p with h1|⟨k,hk,h1⟩
 ·skip
  have HP:=Q02 (Qgr (l:=l) (a:=a) (p:=p) (v:=v) (t:=t) (by rw [h1];decide))
  have HD:=Q02 (show decide (0≤(Q1o l a p).1)=false by rw [h1];rfl)
  rw [h1] at hat
  generalize (Q1o l a p).2=E2 at hat;clear hE
  go_enter Tryz.func166,Tryz.ntmps166
  go_wp2_with fail
  refine (hat).mono ?_
  rintro e v1 ⟨rfl,hb⟩
  replace ct0:v1.cell? ⟨w.heap.size,0,none⟩=some (.slice (some ⟨b,off,none⟩) l.length c):=(hb.cell (p:=⟨w.heap.size,0,none⟩) zct).trans ct0;replace zct:w.heap.size < v1.heap.size:=Kbq zct hb.size;replace cf0:v1.cell? ⟨w.heap.size+1,0,none⟩=some (.int .i64 a):=(hb.cell (p:=⟨w.heap.size+1,0,none⟩) zcf).trans cf0;replace cf1:v1.cell? ⟨w.heap.size+1,1,none⟩=some (.int .i64 p):=(hb.cell (p:=⟨w.heap.size+1,1,none⟩) zcf).trans cf1;replace zcf:w.heap.size+1 < v1.heap.size:=Kbq zcf hb.size
  replace cr0:v1.cell? ⟨w.heap.size+1+1,0,none⟩=some (.slice none 0 0):=(hb.cell (p:=⟨w.heap.size+1+1,0,none⟩) zcr).trans cr0;replace fcr0:v1.frozen? ⟨w.heap.size+1+1,0,none⟩=false:=(hb.frozen (p:=⟨w.heap.size+1+1,0,none⟩) zcr).trans fcr0;replace zcr:w.heap.size+1+1 < v1.heap.size:=Kbq zcr hb.size;replace HB:=Q02 (HB.out.trans (hb.mono HB.out.size));clear hb;clear hat
  go_wp2
  refine bodyPost_ret (v:=.tuple #[tab (.slice (some ⟨b,off,none⟩) l.length c),.bool false]) (by simp [results,Tryz.results166,go_sem,cr0]) rfl ⟨b,off,c,by rw [HD.out], ?_, ?_, ?_,.inl rfl⟩
  ·have:=HB.out.size;simp;omega
  ·rw [HP.out]
   intro i hi j hj
   have hB2:=HB.out.setCell (p:=⟨w.heap.size+1+1,0,none⟩) (by simp <;> omega) (.slice (some ⟨b,off,none⟩) l.length c)
   exact (hB2.cell (p:=⟨b,off+i * Q0h.k+j,none⟩) hbl).trans (HC.out i hi j hj)
  ·exact HB.out.setCell (p:=⟨w.heap.size+1+1,0,none⟩) (by simp <;> omega) _
 ·skip
  have HP:=Q02 (Qfe (l:=l) (a:=a) (p:=p) (v:=v) (t:=t) h1)
  have HD:=Q02 (show decide (0≤(Q1o l a p).1)=true by rw [h1];simp)
  rw [h1] at hat
  generalize (Q1o l a p).2=E2 at hat;clear hE h1
  have hk':(k:Int) < (l.length:Int):=by omega
  go_enter Tryz.func166,Tryz.ntmps166
  go_wp2_with fail
  refine (hat).mono ?_
  rintro e v1 ⟨rfl,hb⟩
  replace ct0:v1.cell? ⟨w.heap.size,0,none⟩=some (.slice (some ⟨b,off,none⟩) l.length c):=(hb.cell (p:=⟨w.heap.size,0,none⟩) zct).trans ct0;replace zct:w.heap.size < v1.heap.size:=Kbq zct hb.size;replace cf0:v1.cell? ⟨w.heap.size+1,0,none⟩=some (.int .i64 a):=(hb.cell (p:=⟨w.heap.size+1,0,none⟩) zcf).trans cf0;replace cf1:v1.cell? ⟨w.heap.size+1,1,none⟩=some (.int .i64 p):=(hb.cell (p:=⟨w.heap.size+1,1,none⟩) zcf).trans cf1;replace zcf:w.heap.size+1 < v1.heap.size:=Kbq zcf hb.size
  replace cr0:v1.cell? ⟨w.heap.size+1+1,0,none⟩=some (.slice none 0 0):=(hb.cell (p:=⟨w.heap.size+1+1,0,none⟩) zcr).trans cr0;replace fcr0:v1.frozen? ⟨w.heap.size+1+1,0,none⟩=false:=(hb.frozen (p:=⟨w.heap.size+1+1,0,none⟩) zcr).trans fcr0;replace zcr:w.heap.size+1+1 < v1.heap.size:=Kbq zcr hb.size;replace HB:=Q02 (HB.out.trans (hb.mono HB.out.size));clear hb
  go_wp2_with fail
  refine (Q4W b off c l v1 (Kbq hbl HB.out.size) (fun i hi j hj=> (HB.out.cell (p:=⟨b,off+i * Q0h.k+j,none⟩) hbl).trans (HC.out i hi j hj)) hl).mono ?_
  rintro e v2 ⟨o2,c2,rfl,hown,hb⟩
  have HV1:=Q02 zcr
  obtain ⟨g,c3,hve⟩:∃g c3,Value.slice o2 l.length c2=.slice (some ⟨g,0,none⟩) l.length c3:=by
   rcases hown.2 with ⟨_,h0⟩|⟨g,c3,_,h0,_⟩
   ·exact absurd h0 (by omega)
   ·exact ⟨g,c3,h0⟩
  injection hve with hv1 hv2 hv3
  subst hv1 hv3;have HO:=Q02 hown;clear hown;replace ct0:v2.cell? ⟨w.heap.size,0,none⟩=some (.slice (some ⟨b,off,none⟩) l.length c):=(hb.cell (p:=⟨w.heap.size,0,none⟩) zct).trans ct0;replace zct:w.heap.size < v2.heap.size:=Kbq zct hb.size;replace cf0:v2.cell? ⟨w.heap.size+1,0,none⟩=some (.int .i64 a):=(hb.cell (p:=⟨w.heap.size+1,0,none⟩) zcf).trans cf0;replace cf1:v2.cell? ⟨w.heap.size+1,1,none⟩=some (.int .i64 p):=(hb.cell (p:=⟨w.heap.size+1,1,none⟩) zcf).trans cf1;replace zcf:w.heap.size+1 < v2.heap.size:=Kbq zcf hb.size
  replace cr0:v2.cell? ⟨w.heap.size+1+1,0,none⟩=some (.slice none 0 0):=(hb.cell (p:=⟨w.heap.size+1+1,0,none⟩) zcr).trans cr0;replace fcr0:v2.frozen? ⟨w.heap.size+1+1,0,none⟩=false:=(hb.frozen (p:=⟨w.heap.size+1+1,0,none⟩) zcr).trans fcr0;replace zcr:w.heap.size+1+1 < v2.heap.size:=Kbq zcr hb.size;replace HB:=Q02 (HB.out.trans (hb.mono HB.out.size));clear hb;have HOv:=HO;obtain ⟨W2,hW2⟩:∃W,(v2.alloc (.cells #[.slice (some ⟨g,0,none⟩) l.length c2] 32))=W:=⟨_,rfl⟩
  have hb_W2:Below v2.heap.size v2 W2:=by rw [←hW2];exact ((Below.refl _ _).alloc (Kaq _) _)
  replace ct0:W2.cell? ⟨w.heap.size,0,none⟩=some (.slice (some ⟨b,off,none⟩) l.length c):=(hb_W2.cell (p:=⟨w.heap.size,0,none⟩) zct).trans ct0;replace zct:w.heap.size < W2.heap.size:=Kbq zct hb_W2.size;replace cf0:W2.cell? ⟨w.heap.size+1,0,none⟩=some (.int .i64 a):=(hb_W2.cell (p:=⟨w.heap.size+1,0,none⟩) zcf).trans cf0;replace cf1:W2.cell? ⟨w.heap.size+1,1,none⟩=some (.int .i64 p):=(hb_W2.cell (p:=⟨w.heap.size+1,1,none⟩) zcf).trans cf1;replace zcf:w.heap.size+1 < W2.heap.size:=Kbq zcf hb_W2.size
  replace cr0:W2.cell? ⟨w.heap.size+1+1,0,none⟩=some (.slice none 0 0):=(hb_W2.cell (p:=⟨w.heap.size+1+1,0,none⟩) zcr).trans cr0;replace fcr0:W2.frozen? ⟨w.heap.size+1+1,0,none⟩=false:=(hb_W2.frozen (p:=⟨w.heap.size+1+1,0,none⟩) zcr).trans fcr0;replace zcr:w.heap.size+1+1 < W2.heap.size:=Kbq zcr hb_W2.size;replace HO:=Q02 (Q03 HO.out hb_W2);replace HB:=Q02 (HB.out.trans (hb_W2.mono HB.out.size));clear hb_W2
  have zco:v2.heap.size < W2.heap.size:=by rw [←hW2];simp
  have co0:W2.cell? ⟨v2.heap.size,0,none⟩=some (.slice (some ⟨g,0,none⟩) l.length c2):=by rw [←hW2];simp [go_sem]
  have hgb:=(HO.out.lt g rfl);have ho:W2.ownsRow v1.heap.size 101 5 (.slice (some ⟨g,0,none⟩) l.length c2) l.length (l.flatMap Q0h.cs):=HO.out
  have hln:(l.flatMap Q0h.cs).length=l.length * 5:=by rw [Q0s];rfl
  obtain ⟨u0,hu0⟩:∃u,W2.cell? ⟨g,k * 5,none⟩=some u:=⟨_,(ho.cellAt (k * 5) (by omega)).trans (List.getElem?_eq_getElem (by omega))⟩
  have hf0:=ho.frozenAt (k * 5)
  obtain ⟨u1,hu1⟩:∃u,W2.cell? ⟨g,k * 5+1,none⟩=some u:=⟨_,(ho.cellAt (k * 5+1) (by omega)).trans (List.getElem?_eq_getElem (by omega))⟩
  have hf1:=ho.frozenAt (k * 5+1)
  obtain ⟨u2,hu2⟩:∃u,W2.cell? ⟨g,k * 5+2,none⟩=some u:=⟨_,(ho.cellAt (k * 5+2) (by omega)).trans (List.getElem?_eq_getElem (by omega))⟩
  have hf2:=ho.frozenAt (k * 5+2)
  obtain ⟨u3,hu3⟩:∃u,W2.cell? ⟨g,k * 5+3,none⟩=some u:=⟨_,(ho.cellAt (k * 5+3) (by omega)).trans (List.getElem?_eq_getElem (by omega))⟩
  have hf3:=ho.frozenAt (k * 5+3)
  obtain ⟨u4,hu4⟩:∃u,W2.cell? ⟨g,k * 5+4,none⟩=some u:=⟨_,(ho.cellAt (k * 5+4) (by omega)).trans (List.getElem?_eq_getElem (by omega))⟩
  have hf4:=ho.frozenAt (k * 5+4);have HS:=Q02 (Q5x (k:=k) ⟨true,a,p,v,t⟩ (Kaq g) ho (Below.refl g W2));have HSt:=Q02 (Q6n W2 g k ⟨true,a,p,v,t⟩);clear ho hln hat;obtain ⟨W3,hW3⟩:∃W,((((W2.setCell ⟨g,k * 5,none⟩ (.bool true)).setCell ⟨g,k * 5+1,none⟩ (.int .i64 a)).setCell ⟨g,k * 5+2,none⟩ (.int .i64 p)).setCell ⟨g,k * 5+3,none⟩ (.int .i64 v)).setCell ⟨g,k * 5+4,none⟩ (.int .i64 t)=W:=⟨_,rfl⟩
  have HS3:Hid (W3.ownsRow v1.heap.size 101 5 (.slice (some ⟨g,0,none⟩) l.length c2) l.length ((l.set k ⟨true,a,p,v,t⟩).flatMap Q0h.cs)):=by rw [←hW3];exact HS.out.1
  have HSt3:Hid (Stp g (g+1) W2 W3):=by rw [←hW3];exact HSt.out
  have hgv:v1.heap.size≤g:=hgb.1
  have hzo:g+1≤v2.heap.size:=by have h:=(HOv.out.lt g rfl).2;omega
  have co3:=HSt3.out.cell co0 zco (.inr hzo);have cr3:=HSt3.out.cell cr0 zcr (.inl (show w.heap.size+1+1 < g from Kbq HV1.out hgv));have fcr3:=HSt3.out.frozen fcr0 zcr (.inl (show w.heap.size+1+1 < g from Kbq HV1.out hgv))
  have hB3:Hid (Below w.heap.size W2 W3):=HSt3.out.below (by have:=HV1.out;omega) (by have:=HV1.out;omega)
  have hwv:w.heap.size≤v1.heap.size:=by have:=HV1.out;omega
  clear cr0 fcr0 HS HSt
  go_wp2
  refine bodyPost_ret (v:=.tuple #[tab (.slice (some ⟨g,0,none⟩) l.length c2),.bool true]) (by simp [results,Tryz.results166,go_sem,cr3]) rfl ⟨g,0,c2,by rw [HD.out], ?_, ?_, ?_,.inr (by have h1:=(HS3.out.lt g rfl).1;have h2:=HV1.out;omega)⟩
  ·have h:=(HS3.out.lt g rfl).2;simpa using h
  ·rw [HP.out]
   have h:=ownsRow_setCell_below HS3.out (a:=⟨w.heap.size+1+1,0,none⟩) (show w.heap.size+1+1 < v1.heap.size from HV1.out) (.slice (some ⟨g,0,none⟩) l.length c2)
   exact Q1M h (by simp)
  ·exact (HB.out.trans hB3.out).setCell (p:=⟨w.heap.size+1+1,0,none⟩) (by simp <;> omega) _
def Qi0 (l:List Sl) (a p v t:Int):Bool:=Q0l l && Q0f a p && Q7l v t
def putB (l:List Sl) (a p v t:Int):Bool:=if Qi0 l a p v t=true then decide (0≤(Q1o l a p).1) else false
theorem Stp.drew {lo hi:Nat} {w w':World} (h:Stp lo hi w w'):Stp lo hi w w'.drew:=⟨h.os,h.tape,h.output,h.size,h.block⟩
def Q4w (m:List Sl):Prop:=∀j,j < m.length→(m.getD j sl0).u=true→Q0f (m.getD j sl0).a (m.getD j sl0).p=true
theorem Q4b {l:List Sl} (h:Q0l l=true):Q4w l:=fun j hj hu=> by
 have ht:=(Q0i.1 h).2.2 j hj
 unfold Q5m at ht
 exact ((Q5L hu).1 ((Bool.and_eq_true _ _).mp ht).1).1
theorem Q4M {m:List Sl} (h:Q4w m) (i:Nat) (s:Sl) (hs:s.u=true→Q0f s.a s.p=true):Q4w (m.set i s):=fun j hj hu=> by
 rw [List.length_set] at hj
 by_cases e:i=j
 ·subst e
  rw [Q19 _ _ _ hj] at hu ⊢
  exact hs hu
 ·rw [Q25 _ _ _ _ e] at hu ⊢
  exact h j hj hu
structure DropInv (n:Nat) (R:List Sl) (g:Nat) (m:List Sl) (i k:Nat):Prop where
 len:m.length=n
 le:n≤16
 hi:i < n
 hk:k < n
 free:(m.getD i sl0).u=false
 ok:Q4w m
 go:Q2j n (g+1) m i k=R
 ms:QeB m i k≤g
theorem DropInv.done {n g i k:Nat} {R m:List Sl} (h:DropInv n R g m i k) (hu:(m.getD k sl0).u=false):m=R:=by
 rw [←h.go,QbY hu]
theorem DropInv.move {n g i k:Nat} {R m:List Sl} (h:DropInv n R g m i k) (hu:(m.getD k sl0).u=true) (hm:Q69 n m i k=true):1≤g∧DropInv n R (g - 1) ((m.set i (m.getD k sl0)).set k sl0) k ((k+1) % n):=by
 obtain ⟨hlen,hle,hi,hk,hfree,hok,hgo,hms⟩:=h;subst hlen;have hd:=Qeh hle hi hk hfree hu hm
 have hg:1≤g:=by omega
 refine ⟨hg,by simp,hle,hk,Q31 (by omega) k, ?_, ?_, ?_, ?_⟩
 ·rw [Q19 _ _ _ (by simpa using hk)]
 ·exact Q4M (Q4M hok i _ (fun hq=> hok k hk hq)) k _ (fun hq=> by cases hq)
 ·rw [←hgo,QaF hu hm,show g - 1+1=g by omega]
 ·omega
theorem DropInv.stay {n g i k:Nat} {R m:List Sl} (h:DropInv n R g m i k) (hu:(m.getD k sl0).u=true) (hm:Q69 n m i k=false):1≤g∧DropInv n R (g - 1) m i ((k+1) % n):=by
 obtain ⟨hlen,hle,hi,hk,hfree,hok,hgo,hms⟩:=h;subst hlen
 have hne:k≠i:=fun e=> by rw [e,hfree] at hu;cases hu
 have hd:=Qez hi hk hne
 have hg:1≤g:=by omega
 refine ⟨hg,rfl,hle,hi,Q31 (by omega) k,hfree,hok, ?_,by omega⟩
 rw [←hgo,Qa2 hu hm,show g - 1+1=g by omega]
theorem DropInv.start {l:List Sl} {i:Nat} (hle:l.length≤16) (hi:i < l.length) (hok:Q4w l):DropInv l.length (Q4I l i) (QeB (l.set i sl0) i ((i+1) % l.length)) (l.set i sl0) i ((i+1) % l.length):=
 ⟨by simp,hle,hi,Q31 (by omega) i,by rw [Q19 _ _ _ hi],Q4M hok i _ (fun h=> by cases h),rfl,Kaq _⟩
theorem Q9s {n i k:Nat} {m:List Sl}:Q69 n m i k=true↔Q1A n i k≤Q1A n (Q11 n (m.getD k sl0).a (m.getD k sl0).p) k:=by simp [Q69]
theorem Q3C (n:Nat):∀(f:Nat) (l:List Sl) (i k:Nat),(Q2j n f l i k).length=l.length
 |0,l,i,k=> rfl
 |f+1,l,i,k=> by
  unfold Q2j
  split
  ·split
   ·rw [Q3C n f];simp
   ·rw [Q3C n f]
  ·rfl
theorem Q4s (l:List Sl) (i:Nat):(Q4I l i).length=l.length:=by unfold Q4I;rw [Q3C];simp
def Q3D (l:List Sl) (a p:Int):List Sl:=if (Q1o l a p).2=true then Q4I l (Q1o l a p).1.toNat else l
theorem Q95 (l:List Sl) (a p:Int):(Q3D l a p).length=l.length:=by
 unfold Q3D
 split
 ·exact Q4s _ _
 ·rfl
theorem Q6u {l:List Sl} {a p:Int} (h:(Q1o l a p).2=false):Q3D l a p=l:=by unfold Q3D;rw [h];rfl
theorem Q9h {l:List Sl} {a p:Int} {k:Nat} (h:Q1o l a p=((k:Int),true)):Q3D l a p=Q4I l k:=by unfold Q3D;rw [h];simp
theorem Q45 {n h d:Nat} (hh:h < n) (hd:d < n):Q1A n h ((h+d) % n)=d:=by
 by_cases e:h+d < n
 ·rw [Q2y e,Q0W hh e,if_pos (by omega)];omega
 ·rw [Q8n (by omega) (by omega),Q0W hh (by omega)]
  split <;> omega
theorem Q4e {n h x:Nat} (hh:h < n) (hx:x < n):(h+Q1A n h x) % n=x:=by
 rw [Q0W hh hx]
 split
 ·rw [Q2y (by omega)];omega
 ·rw [Q8n (by omega) (by omega)];omega
theorem QcY {n h x:Nat} (hh:h < n) (hx:x < n):Q1A n h x < n:=Nat.mod_lt _ (by omega)
theorem QdZ {n h x y:Nat} (hh:h < n) (hx:x < n) (hy:y < n) (e:Q1A n h x=Q1A n h y):x=y:=by
 rw [←Q4e hh hx,e,Q4e hh hy]
theorem Qga {n h i k:Nat} (hh:h < n) (hi:i < n) (hk:k < n) (hne:i≠k):Q1A n h i < Q1A n h k↔Q1A n i k≤Q1A n h k:=by
 rw [Q0W hh hi,Q0W hh hk,Q0W hi hk]
 (repeat' split) <;> omega
theorem Qh1 {n h i k:Nat} (hh:h < n) (hi:i < n) (hk:k < n) (h1:Q1A n h i < Q1A n h k):Q1A n h k=Q1A n h i+Q1A n i k:=by
 rw [Q0W hh hi,Q0W hh hk] at h1
 rw [Q0W hh hi,Q0W hh hk,Q0W hi hk]
 (repeat' split at h1) <;> (repeat' split) <;> omega
theorem QfB {n i:Nat} (hi:i < n):Q1A n i i=0:=by rw [Q0W hi hi,if_pos (Kaq _)];omega
theorem Qe7 {n i j:Nat} (hi:i < n) (hj:j < n) (hne:i≠j):1≤Q1A n i j:=by
 rw [Q0W hi hj];split <;> omega
abbrev at' (m:List Sl) (j:Nat):Sl:=m.getD j sl0
abbrev hm (m:List Sl) (j:Nat):Nat:=Q11 m.length (at' m j).a (at' m j).p
structure Gapless (m:List Sl) (i:Nat):Prop where
 slots:Q78 m m.length
 dist:∀x y,x < m.length→y < m.length→(at' m x).u=true→(at' m y).u=true→(at' m x).a=(at' m y).a→(at' m x).p=(at' m y).p→x=y
 gap:∀j x,j < m.length→x < m.length→(at' m j).u=true→Q1A m.length (hm m j) x < Q1A m.length (hm m j) j→(at' m x).u=true∨x=i
theorem Q9M {a p:Int}:∀{L:List Met} {E:Int × Bool},Q7c a p L=some E→∃x,x∈L∧Q35 a p x=some E
 |[],E,h=> by simp [Q7c] at h
 |x::L,E,h=> by
  unfold Q7c at h
  rw [List.findSome?_cons] at h
  cases hx:Q35 a p x with
  |none=> rw [hx] at h;obtain ⟨y,hy,e⟩:=Q9M (L:=L) (E:=E) h;exact ⟨y,List.mem_cons_of_mem _ hy,e⟩
  |some E'=> rw [hx] at h;exact ⟨x,List.mem_cons_self,by rw [hx];exact h⟩
theorem Q9Q {a p:Int}:∀{L:List Met},(∀x,x∈L→Q35 a p x=none)→Q7c a p L=none
 |[],_=> rfl
 |x::L,h=> by
  unfold Q7c
  rw [List.findSome?_cons,h x List.mem_cons_self]
  exact Q9Q (L:=L) (fun y hy=> h y (List.mem_cons_of_mem _ hy))
theorem Q8S {f:Nat→Met} {k:Nat} {x:Met}:x∈Q2H f k↔∃d,d < k∧f d=x:=by simp [Q2H]
theorem Qax {a p:Int} {x:Met} {E:Int × Bool} (h:Q35 a p x=some E):E.1=(x.1:Int):=by
 unfold Q35 at h
 split at h
 ·split at h
  ·cases h;rfl
  ·cases h
 ·cases h;rfl
theorem Q7T {a p:Int} {x:Met}:Q35 a p x=none↔x.2.u=true∧¬(x.2.a=a∧x.2.p=p):=by
 unfold Q35
 by_cases h1:x.2.u=true
 ·rw [if_pos h1]
  by_cases h2:x.2.a=a∧x.2.p=p
  ·rw [if_pos h2];simp [h1,h2]
  ·rw [if_neg h2];simp [h1,h2]
 ·rw [if_neg h1];simp [h1]
theorem Q4H {l:List Sl} (hn:0 < l.length) {a p:Int} {j:Nat} (hj:j < l.length) {f:Bool} (h:Q1o l a p=((j:Int),f)) (x:Nat) (hx:x < l.length) (hd:Q1A l.length (Q11 l.length a p) x < Q1A l.length (Q11 l.length a p) j):(at' l x).u=true∧¬((at' l x).a=a∧(at' l x).p=p):=by
 have hh:=Q1E hn a p;generalize hhe:Q11 l.length a p=h0 at *;have hfx:=QcY hh hx
 have hme:Q2T l h0 (Q1A l.length h0 x)=(x,at' l x):=by unfold Q2T;rw [Q4e hh hx]
 cases hs:Q35 a p (x,at' l x) with
 |none=> exact Q7T.1 hs
 |some E0=>
  exfalso
  cases hsc:Q7c a p (Q2H (Q2T l h0) (Q1A l.length h0 x+1)) with
  |none=>
   rw [Q3b] at hsc
   have h1:Q7c a p (Q2H (Q2T l h0) (Q1A l.length h0 x))=none:=by
    cases hq:Q7c a p (Q2H (Q2T l h0) (Q1A l.length h0 x)) with
    |none=> rfl
    |some E=> rw [Q9t _ _ _ _ hq] at hsc;cases hsc
   rw [Q7k _ _ _ _ h1,hme,hs] at hsc
   cases hsc
  |some E1=>
   have he:=Q6E (l:=l) hn (a:=a) (p:=p) (k:=Q1A l.length h0 x+1) (E:=E1) (by omega) (by rw [hhe];exact hsc)
   obtain ⟨y,hy,hy2⟩:=Q9M hsc;obtain ⟨d,hdl,rfl⟩:=Q8S.1 hy;have hpl:=Qax hy2
   rw [←he,h] at hpl
   have hjd:j=(h0+d) % l.length:=by have:(j:Int)=((h0+d) % l.length:Nat):=hpl;omega
   have:=Q45 hh (show d < l.length by omega)
   rw [←hjd] at this
   omega
theorem Q8a {l:List Sl} (hn:0 < l.length) {a p:Int} {j:Nat} (hj:j < l.length) (hu:(at' l j).u=true) (ha:(at' l j).a=a) (hp:(at' l j).p=p) (hb:∀x,x < l.length→Q1A l.length (Q11 l.length a p) x < Q1A l.length (Q11 l.length a p) j→(at' l x).u=true∧¬((at' l x).a=a∧(at' l x).p=p)):Q1o l a p=((j:Int),true):=by
 have hh:=Q1E hn a p;have hfj:=QcY hh hj
 refine Q6E hn (k:=Q1A l.length (Q11 l.length a p) j+1) (by omega) ?_
 rw [Q3b,Q7k]
 ·unfold Q2T Q35
  rw [Q4e hh hj]
  simp only
  rw [if_pos hu,if_pos ⟨ha,hp⟩]
 ·refine Q9Q ?_
  intro y hy
  obtain ⟨d,hd,rfl⟩:=Q8S.1 hy;have hx:=Nat.mod_lt (Q11 l.length a p+d) hn
  refine Q7T.2 (hb _ hx ?_)
  rw [Q45 hh (by omega)]
  exact hd
theorem QbV {l:List Sl} (h:Q0l l=true) (i:Nat):Gapless l i:=by
 obtain ⟨h1,h2,h3⟩:=Q0i.1 h
 have hw:∀j,j < l.length→(at' l j).u=true→Q1o l (at' l j).a (at' l j).p=((j:Int),true):=fun j hj hu=> by
  have ht:=((Bool.and_eq_true _ _).mp (h3 j hj)).2
  unfold Q92 at ht
  rw [hu] at ht
  simpa using ht
 refine ⟨fun j hj=> ((Bool.and_eq_true _ _).mp (h3 j hj)).1, ?_, ?_⟩
 ·intro x y hx hy hux huy ha hp
  have e1:=hw x hx hux;have e2:=hw y hy huy
  rw [ha,hp,e2] at e1
  have:(y:Int)=x:=congrArg Prod.fst e1
  omega
 ·intro j x hj hx hu hd
  exact .inl (Q4H (by omega) hj (hw j hj hu) x hx hd).1
theorem Q8q {l:List Sl} (h1:1≤l.length) (h2:l.length≤16) (hs:Q78 l l.length)
  (hd:∀x y,x < l.length→y < l.length→(at' l x).u=true→(at' l y).u=true→(at' l x).a=(at' l y).a→(at' l x).p=(at' l y).p→x=y)
  (hg:∀j x,j < l.length→x < l.length→(at' l j).u=true→Q1A l.length (hm l j) x < Q1A l.length (hm l j) j→(at' l x).u=true):Q0l l=true:=by
 refine Q0i.2 ⟨h1,h2,fun j hj=> ?_⟩
 cases hu:(at' l j).u with
 |false=> exact Q5E hu (hs j hj)
 |true=>
  refine Q5z (hs j hj) (Q8a (by omega) hj hu rfl rfl ?_)
  intro x hx hfx
  refine ⟨hg j x hj hx hu hfx,fun ⟨e1,e2⟩=> ?_⟩
  have:=hd x j hx hj (hg j x hj hx hu hfx) hu e1 e2;subst this
  omega
structure WInv (m:List Sl) (i c:Nat):Prop where
 gl:Gapless m i
 lt:c < m.length
 seen:∀j,j < m.length→(at' m j).u=true→Q1A m.length i j≤c→¬Q1A m.length (hm m j) i < Q1A m.length (hm m j) j
theorem Q3z {m:List Sl} {i:Nat} (s:Sl) (h:i < m.length):at' (m.set i s) i=s:=Q19 m i s h
theorem Q1y {m:List Sl} {i j:Nat} (s:Sl) (h:i≠j):at' (m.set i s) j=at' m j:=Q25 m i j s h
theorem Qel {m:List Sl} {i j:Nat} (s:Sl) (h:i≠j):hm (m.set i s) j=hm m j:=by unfold hm;rw [Q1y s h,List.length_set]
theorem QfC {m:List Sl} (hn:0 < m.length) (j:Nat):hm m j < m.length:=Q1E hn _ _
theorem WInv.start {l:List Sl} {i:Nat} (h:Q0l l=true) (hi:i < l.length):WInv (l.set i sl0) i 0:=by
 have hg:=QbV h i;obtain ⟨h1,_,_⟩:=Q0i.1 h
 have hne:∀j,(at' (l.set i sl0) j).u=true→i≠j:=fun j hu e=> by rw [←e,Q3z _ hi] at hu;cases hu
 refine ⟨⟨?_, ?_, ?_⟩,(by rw [List.length_set];omega), ?_⟩
 ·intro j hj
  rw [List.length_set] at hj
  by_cases e:i=j
  ·subst e;rw [Q19 _ _ _ hi];rfl
  ·rw [Q25 _ _ _ _ e];exact hg.slots j hj
 ·intro x y hx hy hux huy ha hp
  have ex:=hne x hux;have ey:=hne y huy
  rw [List.length_set] at hx hy
  rw [Q1y _ ex] at hux ha hp
  rw [Q1y _ ey] at huy ha hp
  exact hg.dist x y hx hy hux huy ha hp
 ·intro j x hj hx hu hd
  have ej:=hne j hu
  rw [List.length_set] at hj hx hd
  rw [Qel _ ej] at hd
  rw [Q1y _ ej] at hu
  by_cases e:i=x
  ·exact .inr e.symm
  ·left
   rw [Q1y _ e]
   rcases hg.gap j x hj hx hu hd with hq|hq
   ·exact hq
   ·exact absurd hq.symm e
 ·intro j hj hu hd
  have ej:=hne j hu
  rw [List.length_set] at hj hd
  have:=Qe7 hi hj ej
  omega
theorem WInv.stay {m:List Sl} {i c k:Nat} (h:WInv m i c) (hi:i < m.length) (hk:k=(i+1+c) % m.length) (hu:(at' m k).u=true) (hfree:(at' m i).u=false) (hmv:¬Q1A m.length i k≤Q1A m.length (hm m k) k):WInv m i (c+1):=by
 have hn:0 < m.length:=by omega
 have hkl:k < m.length:=by rw [hk];exact Nat.mod_lt _ hn
 have hne:i≠k:=fun e=> by rw [e,hu] at hfree;cases hfree
 have hc1:c+1 < m.length:=by
  rcases Nat.lt_or_ge (c+1) m.length with h1|h1
  ·exact h1
  ·exfalso
   have:=h.lt
   have e:i+1+c=i+m.length:=by omega
   rw [e,Nat.add_mod_right,Q2y hi] at hk
   exact hne hk.symm
 have hfk:Q1A m.length i k=c+1:=by rw [hk,Nat.add_assoc,Nat.add_comm 1 c];exact Q45 hi hc1
 refine ⟨h.gl,hc1,fun j hj huj hd=> ?_⟩
 rcases Nat.lt_or_ge c (Q1A m.length i j) with h1|h1
 ·have e:j=k:=QdZ hi hj hkl (by omega)
  subst e
  intro hq
  exact hmv ((Qga (QfC hn j) hi hkl hne).1 hq)
 ·exact h.seen j hj huj h1
theorem WInv.move {m:List Sl} {i c k:Nat} (h:WInv m i c) (hi:i < m.length) (hkl:k < m.length) (hu:(at' m k).u=true) (hfree:(at' m i).u=false) (hmv:Q1A m.length i k≤Q1A m.length (hm m k) k):WInv ((m.set i (at' m k)).set k sl0) k 0:=by
 have hn:0 < m.length:=by omega
 have hne:i≠k:=fun e=> by rw [e,hu] at hfree;cases hfree
 have hlen:((m.set i (at' m k)).set k sl0).length=m.length:=by simp
 have hon:=(Qga (QfC hn k) hi hkl hne).2 hmv
 have ai:at' ((m.set i (at' m k)).set k sl0) i=at' m k:=by rw [Q1y _ (fun e=> hne e.symm),Q3z _ hi]
 have ak:at' ((m.set i (at' m k)).set k sl0) k=sl0:=Q3z _ (by simpa using hkl)
 have ao:∀x,x≠i→x≠k→at' ((m.set i (at' m k)).set k sl0) x=at' m x:=fun x h1 h2=> by rw [Q1y _ (fun e=> h2 e.symm),Q1y _ (fun e=> h1 e.symm)]
 have hmi:hm ((m.set i (at' m k)).set k sl0) i=hm m k:=by unfold hm;rw [ai,hlen]
 have hmo:∀x,x≠i→x≠k→hm ((m.set i (at' m k)).set k sl0) x=hm m x:=fun x h1 h2=> by unfold hm;rw [ao x h1 h2,hlen]
 have hnk:∀x,(at' ((m.set i (at' m k)).set k sl0) x).u=true→x≠k:=fun x hq e=> by rw [e,ak] at hq;cases hq
 refine ⟨⟨?_, ?_, ?_⟩,by rw [hlen];exact hn, ?_⟩
 ·intro j hj
  rw [hlen] at hj
  by_cases e1:j=k
  ·subst e1;show Q34 (at' _ j)=true;rw [ak];rfl
  ·by_cases e2:j=i
   ·subst e2;show Q34 (at' _ j)=true;rw [ai];exact h.gl.slots k hkl
   ·show Q34 (at' _ j)=true;rw [ao j e2 e1];exact h.gl.slots j hj
 ·intro x y hx hy hux huy ha hp
  have ex:=hnk x hux;have ey:=hnk y huy
  rw [hlen] at hx hy
  by_cases e1:x=i
  ·by_cases e2:y=i
   ·rw [e1,e2]
   ·rw [e1,ai] at ha hp
    rw [ao y e2 ey] at huy ha hp
    exact absurd (h.gl.dist k y hkl hy hu huy ha hp).symm ey
  ·by_cases e2:y=i
   ·rw [e2,ai] at ha hp
    rw [ao x e1 ex] at hux ha hp
    exact absurd (h.gl.dist x k hx hkl hux hu ha hp) ex
   ·rw [ao x e1 ex] at hux ha hp
    rw [ao y e2 ey] at huy ha hp
    exact h.gl.dist x y hx hy hux huy ha hp
 ·intro j x hj hx huj hd
  have ej:=hnk j huj
  rw [hlen] at hj hx hd
  by_cases e1:x=k
  ·exact .inr e1
  ·left
   by_cases e2:x=i
   ·rw [e2,ai];exact hu
   ·rw [ao x e2 e1]
    by_cases e3:j=i
    ·rw [e3,hmi] at hd
     rcases h.gl.gap k x hkl hx hu (by omega) with hq|hq
     ·exact hq
     ·exact absurd hq e2
    ·rw [hmo j e3 ej] at hd
     rw [ao j e3 ej] at huj
     rcases h.gl.gap j x hj hx huj hd with hq|hq
     ·exact hq
     ·exact absurd hq e2
 ·intro j hj huj hd
  rw [hlen] at hj hd
  have:=Qe7 hkl hj (fun e=> hnk j huj e.symm)
  omega
theorem WInv.done {m:List Sl} {i c k:Nat} (h:WInv m i c) (h16:m.length≤16) (hi:i < m.length) (hk:k=(i+1+c) % m.length) (hfree:(at' m k).u=false):Q0l m=true:=by
 have hn:0 < m.length:=by omega
 have hkl:k < m.length:=by rw [hk];exact Nat.mod_lt _ hn
 refine Q8q (by omega) h16 h.gl.slots h.gl.dist ?_
 intro j x hj hx hu hd
 rcases h.gl.gap j x hj hx hu hd with hq|hq
 ·exact hq
 ·exfalso
  subst hq
  have hs:c < Q1A m.length x j:=Nat.lt_of_not_le fun hle=> h.seen j hj hu hle hd
  have hlt:=QcY hi hj
  have hfk:Q1A m.length x k=c+1:=by rw [hk,Nat.add_assoc,Nat.add_comm 1 c];exact Q45 hi (by omega)
  have hjk:j≠k:=fun e=> by rw [e,hfree] at hu;cases hu
  have hlt2:Q1A m.length x k < Q1A m.length x j:=by
   rcases Nat.lt_or_ge (c+1) (Q1A m.length x j) with h1|h1
   ·omega
   ·exact absurd (QdZ hi hj hkl (by omega)) hjk
  have e1:=Qh1 (QfC hn j) hi hj hd
  have hxk:x≠k:=fun e=> by rw [e,QfB hkl] at hfk;omega
  have hk2:Q1A m.length (hm m j) k < Q1A m.length (hm m j) j:=by
   have:=QfC hn j;have a1:=Q0W this hkl;have a2:=Q0W this hi;have a3:=Q0W this hj;have a4:=Q0W hi hkl;have a5:=Q0W hi hj
   (repeat' split at a1) <;> (repeat' split at a2) <;> (repeat' split at a3) <;> (repeat' split at a4) <;> (repeat' split at a5) <;> omega
  rcases h.gl.gap j k hj hkl hu hk2 with h1|h1
  ·rw [h1] at hfree;cases hfree
  ·exact hxk h1.symm
theorem Q5I {n:Nat} {R:List Sl}:∀(g:Nat) (m:List Sl) (i c k:Nat),k=(i+1+c) % n→DropInv n R g m i k→WInv m i c→Q0l R=true
 |g,m,i,c,k,hk,hD,hW=> by
  have hlen:=hD.len;have hi:=hD.hi;have hkl:=hD.hk;have hf:=hD.free
  cases hu:(m.getD k sl0).u with
  |false=>
   rw [←hD.done hu]
   exact hW.done (by have:=hD.le;omega) (by omega) (by rw [hlen];exact hk) hu
  |true=>
   cases hm':Q69 n m i k with
   |true=>
    obtain ⟨hg,hN⟩:=hD.move hu hm'
    obtain ⟨g',rfl⟩:∃g',g=g'+1:=⟨g - 1,by omega⟩
    have hmv:=Q9s.1 hm'
    exact Q5I g' _ k 0 _ (by rw [Nat.add_zero]) hN (hW.move (by omega) (by omega) hu hf (by rw [hlen];unfold hm;rw [hlen];exact hmv))
   |false=>
    obtain ⟨hg,hN⟩:=hD.stay hu hm'
    obtain ⟨g',rfl⟩:∃g',g=g'+1:=⟨g - 1,by omega⟩
    have hmv:¬Q1A n i k≤Q1A n (Q11 n (m.getD k sl0).a (m.getD k sl0).p) k:=fun hq=> by rw [Q9s.2 hq] at hm';cases hm'
    refine Q5I g' m i (c+1) _ ?_ hN (hW.stay (by omega) (by rw [hlen];exact hk) hu hf (by rw [hlen];unfold hm;rw [hlen];exact hmv))
    rw [hk,Nat.mod_add_mod];congr 1
theorem Qc1 {l:List Sl} {i:Nat} (h:Q0l l=true) (hi:i < l.length):Q0l (Q4I l i)=true:=by
 obtain ⟨h1,h2,_⟩:=Q0i.1 h
 exact Q5I _ _ i 0 _ (by rw [Nat.add_zero]) (DropInv.start h2 hi (Q4b h)) (WInv.start h hi)
theorem Qhn {m:List Sl} {i:Nat} (h:Q0l m=true) (hi:i < m.length) (hu:(at' m i).u=true):Q1o m (at' m i).a (at' m i).p=((i:Int),true):=by
 have ht:=((Bool.and_eq_true _ _).mp ((Q0i.1 h).2.2 i hi)).2
 unfold Q92 at ht
 rw [show (m.getD i sl0).u=true from hu] at ht
 simpa using ht
theorem Qg5 {l:List Sl} {a p v t:Int} {k:Nat} {f:Bool} (h:Q0l l=true) (hf:Q0f a p=true) (hv:0≤v∧v≤100000) (ht:0≤t∧t≤200000) (hk:k < l.length) (he:Q1o l a p=((k:Int),f)):Q0l (l.set k ⟨true,a,p,v,t⟩)=true:=by
 obtain ⟨h1,h2,h3⟩:=Q0i.1 h;have hlen:(l.set k ⟨true,a,p,v,t⟩).length=l.length:=List.length_set;have hs:=Q3z (m:=l) ⟨true,a,p,v,t⟩ hk
 refine Q0i.2 ⟨by omega,by omega,fun i hi=> ?_⟩
 rw [hlen] at hi
 by_cases hik:k=i
 ·subst hik
  refine Q5z ?_ ?_
  ·rw [show (l.set k ⟨true,a,p,v,t⟩).getD k sl0=⟨true,a,p,v,t⟩ from hs]
   exact (Q5L rfl).2 ⟨hf,hv.1,hv.2,ht.1,ht.2⟩
  ·rw [show (l.set k ⟨true,a,p,v,t⟩).getD k sl0=⟨true,a,p,v,t⟩ from hs]
   refine Q8a (by omega) (by omega) (by rw [hs]) (by rw [hs]) (by rw [hs]) (fun x hx hd=> ?_)
   rw [hlen] at hx hd
   have hne:k≠x:=fun e=> by rw [e] at hd;exact absurd hd (Nat.lt_irrefl _)
   rw [Q1y _ hne]
   exact Q4H (by omega) hk he x hx hd
 ·have hg:=Q1y (m:=l) ⟨true,a,p,v,t⟩ hik
  have h4:=(Bool.and_eq_true _ _).mp (h3 i hi)
  cases hu:(at' l i).u with
  |false=> exact Q5E (by rw [show (l.set k ⟨true,a,p,v,t⟩).getD i sl0=at' l i from hg];exact hu) (by rw [show (l.set k ⟨true,a,p,v,t⟩).getD i sl0=at' l i from hg];exact h4.1)
  |true=>
   have hw:=Qhn h hi hu
   refine Q5z ?_ ?_
   ·rw [show (l.set k ⟨true,a,p,v,t⟩).getD i sl0=at' l i from hg];exact h4.1
   ·rw [show (l.set k ⟨true,a,p,v,t⟩).getD i sl0=at' l i from hg]
    refine Q8a (by omega) (by omega) (by rw [hg];exact hu) (by rw [hg]) (by rw [hg]) (fun x hx hd=> ?_)
    rw [hlen] at hx hd
    by_cases hkx:k=x
    ·subst hkx
     rw [hs]
     refine ⟨rfl,fun e=> hik ?_⟩
     rw [←e.1,←e.2,he] at hw
     injection hw with hw _
     omega
    ·rw [Q1y _ hkx]
     exact Q4H (by omega) hi hw x hx hd
theorem Qaj {l:List Sl} {a p v t:Int} (h:Q0l l=true) (hf:Q0f a p=true) (hv:0≤v∧v≤100000) (ht:0≤t∧t≤200000):Q0l (Q6j l a p v t)=true:=by
 have hn:=(Q0i.1 h).1
 rcases Q23 l (by omega) a p with e|⟨k,hk,⟨e,_⟩|⟨e,_⟩⟩
 ·unfold Q6j;rw [e,if_neg (by decide)];exact h
 ·unfold Q6j;rw [e,if_pos (by simp)];simpa using Qg5 h hf hv ht hk e
 ·unfold Q6j;rw [e,if_pos (by simp)];simpa using Qg5 h hf hv ht hk e
end Go.Proofs.YtpneolgdghbinaaGreat
