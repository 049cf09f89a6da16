/- The program's tableFrom. -/
import Derived.Test.YtpneolgdghbinaaGreatQSends05
import Derived.Test.YtpneolgdghbinaaGreatQSends07
namespace Go.Proofs.YtpneolgdghbinaaGreat
open Go.ChangeShapes Go.WideShapes Go.ChangeAt Go.RowKit Go.Joins
set_option linter.unusedVariables false
set_option linter.unusedSimpArgs false
set_option maxRecDepth 100000
set_option maxHeartbeats 40000000
theorem Q1M {e:TypeId} {w:World} {base g n c:Nat} {l:List Sl} (h:w.ownsRow base e 5 (.slice (some ⟨g,0,none⟩) n c) n (l.flatMap Q0h.cs)) (hn:n=l.length):∀i,i < l.length→∀j,j < Q0h.k→w.cell? ⟨g,0+i * Q0h.k+j,none⟩=(Q0h.cs (l.getD i Q0h.d))[j]? :=fun i hi j hj=> by
 have hij:i * Q0h.k+j < l.length * Q0h.k:=by
  have:(i+1) * Q0h.k≤l.length * Q0h.k:=Nat.mul_le_mul_right _ hi
  rw [Nat.add_mul] at this;omega
 subst hn
 rw [Nat.zero_add,h.cellAt _ hij,Q4h Q0h l i j hi hj]
theorem Q8H (o:Option Addr) (c:Nat) (l:List Sl) (w:World) (hR:RdS w.heap.size w o l) (hl:l.length≤1048576):
  Calls Tryz.prog 76 #[tab (.slice o l.length c)] w fun e w'=> ∃o' n' c',e=.returned (.tuple #[tab (.slice o' n' c'),.bool (Q0l l)])∧((n'=0∧Q0l l=false)∨∃g,o'=some ⟨g,0,none⟩∧n'=l.length∧c'=l.length∧ownL Q0h Q4l w' w.heap.size (.slice (some ⟨g,0,none⟩) l.length l.length) l)∧Below w.heap.size w w':=by
 have hB:Below w.heap.size w w:=Below.refl _ _
 by_cases hlen:1≤l.length∧l.length≤16
 ·obtain ⟨hn,h16⟩:=hlen
  rcases hR with hR|⟨b,off,rfl,hbl,hcell⟩
  ·subst hR;simp at hn
  have HC:=Q02 hcell
  have i1:¬((l.length:Int) < 1):=by omega
  have i2:¬(16 < (l.length:Int)):=by omega
  obtain ⟨W0,hW0⟩:∃W,(w.alloc (.cells #[.slice (some ⟨b,off,none⟩) l.length c] 32)).alloc (.cells #[.slice none 0 0] 89)=W:=⟨_,rfl⟩
  have h0:Hid (Below w.heap.size w W0):=by rw [←hW0];exact ((Below.refl _ _).alloc (Kaq _) _).alloc (by simp) _
  have c00:W0.cell? ⟨w.heap.size,0,none⟩=some (.slice (some ⟨b,off,none⟩) l.length c):=by rw [←hW0];simp [go_sem]
  have b01:Hid (W0.heap[w.heap.size+1]? =some (.cells #[.slice none 0 0] 89 (0,0))):=by
   have h:=World.alloc_heap_new (w.alloc (.cells #[.slice (some ⟨b,off,none⟩) l.length c] 32)) (.cells #[.slice none 0 0] 89)
   rw [hW0,World.size_alloc] at h
   exact h
  have hz0:w.heap.size+1 < W0.heap.size:=by rw [←hW0];simp
  clear hcell hB
  go_enter Tryz.func76,Tryz.ntmps76
  go_wp2_with fail
  refine (Q3L l.length W0 hl).mono ?_
  rintro e w1 ⟨g,rfl,hown,hb1⟩
  have hg1:g < w1.heap.size:=(hown.lt g rfl).2;have hg0:W0.heap.size≤g:=(hown.lt g rfl).1;obtain ⟨W2,hW2⟩:∃W,w1.alloc (.cells #[.slice (some ⟨g,0,none⟩) l.length l.length] 89)=W:=⟨_,rfl⟩
  have hbW:Below w1.heap.size w1 W2:=by rw [←hW2];exact (Below.refl _ _).alloc (Kaq _) _
  have hb2:Below W0.heap.size W0 W2:=hb1.trans (hbW.mono hb1.size)
  have c20:W2.cell? ⟨w.heap.size,0,none⟩=some (.slice (some ⟨b,off,none⟩) l.length c):=(hb2.cell (p:=⟨w.heap.size,0,none⟩) (show w.heap.size < W0.heap.size by omega)).trans c00
  have b24:Hid (W2.heap[w1.heap.size]? =some (.cells #[.slice (some ⟨g,0,none⟩) l.length l.length] 89 (0,0))):=by rw [←hW2];exact World.alloc_heap_new w1 _
  have b21:Hid (W2.heap[w.heap.size+1]? =some (.cells #[.slice none 0 0] 89 (0,0))):=(hb2.block _ hz0).trans b01.out;have HB2:=Q02 (h0.out.trans (hb2.mono h0.out.size))
  have hz4:w1.heap.size < W2.heap.size:=by rw [←hW2];simp
  have HO2:Hid (W2.ownsRow W0.heap.size Q4l 5 (.slice (some ⟨g,0,none⟩) l.length l.length) l.length ((Q3k Q0h l 0).flatMap Q0h.cs)):=by
   have h:W2.ownsRow W0.heap.size Q4l 5 (.slice (some ⟨g,0,none⟩) l.length l.length) (List.replicate l.length sl0).length ((List.replicate l.length sl0).flatMap Q0h.cs):=Q03 hown hbW
   rw [List.length_replicate] at h
   unfold Hid
   rw [Q7J]
   exact h
  clear hown hb1 hbW hb2 c00 b01 hW0
  have hzz:w.heap.size+1 < w1.heap.size:=by omega
  go_wp2
  go_loopw [27] (fun i wr=> ∃k:Nat,k≤l.length∧i=.int .i64 k∧Hid (Q78 l k)∧Hid (wr.ownsRow W0.heap.size Q4l 5 (.slice (some ⟨g,0,none⟩) l.length l.length) l.length ((Q3k Q0h l k).flatMap Q0h.cs))∧Hid (wr.heap[w.heap.size+1]? =some (.cells #[.slice none 0 0] 89 (0,0)))∧Hid (wr.heap[w1.heap.size]? =some (.cells #[.slice (some ⟨g,0,none⟩) l.length l.length] 89 (0,0)))∧Hid (Below w.heap.size w wr)∧w1.heap.size < wr.heap.size)
   (fun i _=> l.length - (intOf i).toNat)
  case atStart=> exact ⟨0,Kcq _,rfl,fun i hi=> absurd hi (Nat.not_lt_zero _),HO2,b21,b24,HB2,hz4⟩
  case round=>
   clear HO2 b21 b24 HB2 c20 hW2;obtain ⟨k,hk,rfl,hT,HO,HR,HT4,HBr,hsz⟩:=hrel;have r1:=Q0j HR.out 0 _ rfl
   have f1:wr.frozen? ⟨w.heap.size+1,0,none⟩=false:=by have h:=HR.out;simp [World.frozen?,h]
   by_cases hlt:k < l.length
   ·obtain ⟨s,hxy⟩:∃s,l.getD k sl0=s:=⟨_,rfl⟩
    have hcx:=RdL.slot (C:=w.heap.size) HC.out k hlt
    rw [hxy] at hcx
    have e0:=(HBr.out.cell (p:=⟨b,off+k * 5,none⟩) hbl).trans hcx.1;have e1:=(HBr.out.cell (p:=⟨b,off+k * 5+1,none⟩) hbl).trans hcx.2.1;have e2:=(HBr.out.cell (p:=⟨b,off+k * 5+2,none⟩) hbl).trans hcx.2.2.1;have e3:=(HBr.out.cell (p:=⟨b,off+k * 5+3,none⟩) hbl).trans hcx.2.2.2.1;have e4:=(HBr.out.cell (p:=⟨b,off+k * 5+4,none⟩) hbl).trans hcx.2.2.2.2
    have hk':(k:Int) < (l.length:Int):=by omega
    obtain ⟨W3,hW3⟩:∃W,wr.alloc (.cells #[.bool s.u,.int .i64 s.a,.int .i64 s.p,.int .i64 s.v,.int .i64 s.t] 101)=W:=⟨_,rfl⟩
    have hb3:Below wr.heap.size wr W3:=by rw [←hW3];exact (Below.refl _ _).alloc (Kaq _) _
    have HX:=Q02 hxy;have Hb3:=Q02 hb3;obtain ⟨g0,g1,g2,g3,g4⟩:=alc5v0v1 hW3;clear hcx hxy hb3
    go_wp2_with fail
    refine (Q98 s W3).mono ?_
    rintro e w4 ⟨s',rfl,hs',hb4⟩
    obtain ⟨W5,hW5⟩:∃W,w4.alloc (.cells #[.bool s'.u,.int .i64 s'.a,.int .i64 s'.p,.int .i64 s'.v,.int .i64 s'.t] 165)=W:=⟨_,rfl⟩
    have hb5:Below wr.heap.size wr W5:=Hb3.out.trans ((hb4.trans (by rw [←hW5];exact (Below.refl _ _).alloc (by have:=hb4.size;omega) _)).mono Hb3.out.size)
    obtain ⟨q0,q1,q2,q3,q4⟩:=alc5v0v1 hW5;have HB5:=Q02 (HBr.out.trans (hb5.mono HBr.out.size))
    have HR5:Hid (W5.heap[w.heap.size+1]? =some (.cells #[.slice none 0 0] 89 (0,0))):=(hb5.block _ (by omega)).trans HR.out
    have HT5:Hid (W5.heap[w1.heap.size]? =some (.cells #[.slice (some ⟨g,0,none⟩) l.length l.length] 89 (0,0))):=(hb5.block _ hsz).trans HT4.out;have hsz5:w1.heap.size < W5.heap.size:=Kbq hsz hb5.size;have hown5:=Q03 HO.out hb5;clear Hb3 hb4 hb5 g0 g1 g2 g3 g4 e0 e1 e2 e3 e4 r1 f1 HR HT4 HBr HO hW3
    cases hsb:Q34 s with
    |false=>
     have HN:=Q02 (Q9Z hlt (Qcg (by rw [HX.out];exact hsb)))
     have r1:=Q0j HR5.out 0 _ rfl
     have f1:W5.frozen? ⟨w.heap.size+1,0,none⟩=false:=by have h:=HR5.out;simp [World.frozen?,h]
     clear hown5 hsb hs' hT
     go_wp2
     refine bodyPost_ret (v:=.tuple #[tab (.slice none 0 0),.bool false]) (by simp [results,Tryz.results76,go_sem,r1]) rfl ⟨_,_,_,by rw [←HN.out],.inl ⟨rfl,HN.out.symm⟩, ?_⟩
     exact HB5.out.setCell (p:=⟨w.heap.size+1,0,none⟩) (by simp) _
    |true=>
     obtain rfl:=hs' hsb
     have HT:=Q02 (Qa3 hT.out (by rw [HX.out];exact hsb))
     have t4:=Q0j HT5.out 0 _ rfl
     have hln:((Q3k Q0h l k).flatMap Q0h.cs).length=l.length * 5:=by rw [Q0s,Q61 Q0h l k hk];rfl
     obtain ⟨u0,hu0⟩:∃u,W5.cell? ⟨g,k * 5,none⟩=some u:=⟨_,(hown5.cellAt (k * 5) (by omega)).trans (List.getElem?_eq_getElem (by omega))⟩
     have hf0:=hown5.frozenAt (k * 5)
     obtain ⟨u1,hu1⟩:∃u,W5.cell? ⟨g,k * 5+1,none⟩=some u:=⟨_,(hown5.cellAt (k * 5+1) (by omega)).trans (List.getElem?_eq_getElem (by omega))⟩
     have hf1:=hown5.frozenAt (k * 5+1)
     obtain ⟨u2,hu2⟩:∃u,W5.cell? ⟨g,k * 5+2,none⟩=some u:=⟨_,(hown5.cellAt (k * 5+2) (by omega)).trans (List.getElem?_eq_getElem (by omega))⟩
     have hf2:=hown5.frozenAt (k * 5+2)
     obtain ⟨u3,hu3⟩:∃u,W5.cell? ⟨g,k * 5+3,none⟩=some u:=⟨_,(hown5.cellAt (k * 5+3) (by omega)).trans (List.getElem?_eq_getElem (by omega))⟩
     have hf3:=hown5.frozenAt (k * 5+3)
     obtain ⟨u4,hu4⟩:∃u,W5.cell? ⟨g,k * 5+4,none⟩=some u:=⟨_,(hown5.cellAt (k * 5+4) (by omega)).trans (List.getElem?_eq_getElem (by omega))⟩
     have hf4:=hown5.frozenAt (k * 5+4);have HR6:=Q02 (Q5x (k:=k) s' hg0 hown5 (Below.refl W0.heap.size W5))
     have HX2:=Q02 (show (Q3k Q0h l k).set k s'=Q3k Q0h l (k+1) by rw [←HX.out];exact Q8Z Q0h l k hlt)
     clear hown5 hln hsb hs' hT
     go_wp2
     go_roundw
     case rel=> exact ⟨k+1,hlt,by go_num,HT,(by have h:=HR6.out.1;rw [HX2.out] at h;exact h),(HR6.out.2.block _ hz0).trans HR5.out,(by
       repeat (refine (Below.heap_setCell _ _ _ _ (by simp;omega)).trans ?_)
       exact HT5.out),HB5.out.trans (HR6.out.2.mono (by have:=h0.out.size;omega)),Kbq hsz5 HR6.out.2.size⟩
     case measure=> simp [intOf];omega
   ·have e:k=l.length:=by omega
    subst e;have hrow:=HO.out
    rw [Q9B] at hrow
    have HRow:=Q02 hrow;clear hrow HO;have t4:=Q0j HT4.out 0 _ rfl
    have hgr:g < wr.heap.size:=by omega
    have hrB:=ownsRow_setCell_below HRow.out (a:=⟨w.heap.size+1,0,none⟩) (show w.heap.size+1 < W0.heap.size from hz0) (.slice (some ⟨g,0,none⟩) l.length l.length)
    have hA:=Q3J g 0 l.length l wr.drew (by omega) hl hT.out hgr (fun i hi j hj=> Q1M HRow.out rfl i hi j hj)
    have hBw:=Q3J g 0 l.length l (wr.setCell ⟨w.heap.size+1,0,none⟩ (.slice (some ⟨g,0,none⟩) l.length l.length)).drew (by omega) hl hT.out (by simpa using hgr) (fun i hi j hj=> Q1M hrB rfl i hi j hj)
    rw [Q8N hn h16 hT.out] at hA hBw
    have HrB:=Q02 hrB;have HRowD:Hid (wr.drew.ownsRow W0.heap.size Q4l 5 (.slice (some ⟨g,0,none⟩) l.length l.length) l.length (l.flatMap Q0h.cs)):=HRow.out
    have hs1:w.heap.size+1 < wr.heap.size:=by omega
    have hs2:w.heap.size+1 < (wr.setCell ⟨w.heap.size+1,0,none⟩ (.slice (some ⟨g,0,none⟩) l.length l.length)).heap.size:=by simpa using hs1
    have cB:(wr.setCell ⟨w.heap.size+1,0,none⟩ (.slice (some ⟨g,0,none⟩) l.length l.length)).cell? ⟨w.heap.size+1,0,none⟩=some (.slice (some ⟨g,0,none⟩) l.length l.length):=World.cell?_setCell_same' wr ⟨w.heap.size+1,0,none⟩ _ (by rw [r1];rfl)
    clear hrB hT
    go_wp2
    first|(go_region_with (first|(go_at_call 126;refine hA.mono ?_;rintro e w2 ⟨rfl,hb2⟩;have m1:=(hb2.cell (p:=⟨w.heap.size+1,0,none⟩) hs1).trans r1;have mf:=(hb2.frozen (p:=⟨w.heap.size+1,0,none⟩) hs1).trans f1;have m4:=(hb2.cell (p:=⟨w1.heap.size,0,none⟩) hsz).trans t4;have HbA:=Q02 hb2;clear hb2)|(go_at_call 126;refine hBw.mono ?_;rintro e w3 ⟨rfl,hb3⟩;have m1:=(hb3.cell (p:=⟨w.heap.size+1,0,none⟩) hs2).trans cB;have HbB:=Q02 hb3;clear hb3)))|fail
    all_goals go_wp2
    all_goals refine bodyPost_ret (v:=.tuple #[tab (.slice (some ⟨g,0,none⟩) l.length l.length),.bool (Q0l l)]) (by simp [results,Tryz.results76,go_sem,m1]) rfl ⟨_,_,_,rfl,.inr ⟨g,rfl,rfl,rfl, ?_⟩, ?_⟩
    all_goals first
     |exact Q04 (ownsRow_setCell_below (Q03 HRowD.out HbA.out) (show w.heap.size+1 < W0.heap.size from hz0) _) h0.out.size
     |exact ((Below.drew HBr.out).trans (HbA.out.mono (Kdq (Nat.le_succ _) (Nat.le_of_lt hs1)))).setCell (p:=⟨w.heap.size+1,0,none⟩) (by simp) _
 ·have HN:=Q02 (Q8U hlen)
  by_cases h1:(l.length:Int) < 1
  ·go_enter Tryz.func76,Tryz.ntmps76
   go_wp2
   refine bodyPost_ret (v:=.tuple #[tab (.slice none 0 0),.bool false]) (by simp [results,Tryz.results76,go_sem]) rfl ⟨_,_,_,by rw [←HN.out],.inl ⟨rfl,HN.out.symm⟩, ?_⟩
   (repeat (first|with_reducible (first|exact hB|exact Below.refl _ _|refine Below.drew ?_|refine below_drewN ?_ _|refine Below.alloc ?_ ?_ _|refine Below.setCell ?_ ?_ _)|(focus (simp;first|done|omega))|omega))
  ·have h2:(16:Int) < l.length:=by omega
   go_enter Tryz.func76,Tryz.ntmps76
   go_wp2
   refine bodyPost_ret (v:=.tuple #[tab (.slice none 0 0),.bool false]) (by simp [results,Tryz.results76,go_sem]) rfl ⟨_,_,_,by rw [←HN.out],.inl ⟨rfl,HN.out.symm⟩, ?_⟩
   (repeat (first|with_reducible (first|exact hB|exact Below.refl _ _|refine Below.drew ?_|refine below_drewN ?_ _|refine Below.alloc ?_ ?_ _|refine Below.setCell ?_ ?_ _)|(focus (simp;first|done|omega))|omega))
end Go.Proofs.YtpneolgdghbinaaGreat
