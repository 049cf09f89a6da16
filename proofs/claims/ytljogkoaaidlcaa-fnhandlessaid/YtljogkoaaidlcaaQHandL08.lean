/- The program's tableFrom. -/
import Derived.Test.YtljogkoaaidlcaaQHandL05
import Derived.Test.YtljogkoaaidlcaaQHandL07
namespace Go.Proofs.Ytljogkoaaidlcaa
open Go.ChangeShapes Go.WideShapes Go.ChangeAt Go.RowKit Go.Joins
set_option linter.unusedVariables false
set_option linter.unusedSimpArgs false
set_option maxRecDepth 100000
set_option maxHeartbeats 40000000
theorem Q0n {e:TypeId} {w:World} {base g n c:Nat} {l:List Sl} (h:w.ownsRow base e 5 (.slice (some ⟨g,0,none⟩) n c) n (l.flatMap Q0e.cs)) (hn:n=l.length):∀i,i < l.length→∀j,j < Q0e.k→w.cell? ⟨g,0+i * Q0e.k+j,none⟩=(Q0e.cs (l.getD i Q0e.d))[j]? :=fun i hi j hj=> by
 have hij:i * Q0e.k+j < l.length * Q0e.k:=by
  have:(i+1) * Q0e.k≤l.length * Q0e.k:=Nat.mul_le_mul_right _ hi
  rw [Nat.add_mul] at this;omega
 subst hn
 rw [Nat.zero_add,h.cellAt _ hij,Q2P Q0e l i j hi hj]
theorem Q4w (o:Option Addr) (c:Nat) (l:List Sl) (w:World) (hR:RdS w.heap.size w o l) (hl:l.length≤1048576):
  Calls Try.prog 49 #[tab (.slice o l.length c)] w fun e w'=> ∃o' n' c',e=.returned (.tuple #[tab (.slice o' n' c'),.bool (Q0b l)])∧((n'=0∧Q0b l=false)∨∃g,o'=some ⟨g,0,none⟩∧n'=l.length∧c'=l.length∧ownL Q0e Q0k w' w.heap.size (.slice (some ⟨g,0,none⟩) l.length l.length) l)∧Below w.heap.size w w':=by
 have hB:Below w.heap.size w w:=Below.refl _ _
 by_cases hlen:1≤l.length∧l.length≤16
 ·obtain ⟨hn,h16⟩:=hlen
  rcases hR with hR|⟨b,off,rfl,hbl,hcell⟩
  ·subst hR;simp at hn
  have HC:=Q00 hcell
  have i1:¬((l.length:Int) < 1):=by omega
  have i2:¬(16 < (l.length:Int)):=by omega
  obtain ⟨W0,hW0⟩:∃W,(w.alloc (.cells #[.slice (some ⟨b,off,none⟩) l.length c] 25)).alloc (.cells #[.slice none 0 0] 63)=W:=⟨_,rfl⟩
  have h0:Hid (Below w.heap.size w W0):=by rw [←hW0];exact ((Below.refl _ _).alloc (Kaq _) _).alloc (by simp) _
  have c00:W0.cell? ⟨w.heap.size,0,none⟩=some (.slice (some ⟨b,off,none⟩) l.length c):=by rw [←hW0];simp [go_sem]
  have b01:Hid (W0.heap[w.heap.size+1]? =some (.cells #[.slice none 0 0] 63 (0,0))):=by
   have h:=World.alloc_heap_new (w.alloc (.cells #[.slice (some ⟨b,off,none⟩) l.length c] 25)) (.cells #[.slice none 0 0] 63)
   rw [hW0,World.size_alloc] at h
   exact h
  have hz0:w.heap.size+1 < W0.heap.size:=by rw [←hW0];simp
  clear hcell hB
  go_enter Try.func49,Try.ntmps49
  go_wp2_with fail
  refine (Q1h l.length W0 hl).mono ?_
  rintro e w1 ⟨g,rfl,hown,hb1⟩
  have hg1:g < w1.heap.size:=(hown.lt g rfl).2
  have hg0:W0.heap.size≤g:=(hown.lt g rfl).1
  obtain ⟨W2,hW2⟩:∃W,w1.alloc (.cells #[.slice (some ⟨g,0,none⟩) l.length l.length] 63)=W:=⟨_,rfl⟩
  have hbW:Below w1.heap.size w1 W2:=by rw [←hW2];exact (Below.refl _ _).alloc (Kaq _) _
  have hb2:Below W0.heap.size W0 W2:=hb1.trans (hbW.mono hb1.size)
  have c20:W2.cell? ⟨w.heap.size,0,none⟩=some (.slice (some ⟨b,off,none⟩) l.length c):=(hb2.cell (p:=⟨w.heap.size,0,none⟩) (show w.heap.size < W0.heap.size by omega)).trans c00
  have b24:Hid (W2.heap[w1.heap.size]? =some (.cells #[.slice (some ⟨g,0,none⟩) l.length l.length] 63 (0,0))):=by rw [←hW2];exact World.alloc_heap_new w1 _
  have b21:Hid (W2.heap[w.heap.size+1]? =some (.cells #[.slice none 0 0] 63 (0,0))):=(hb2.block _ hz0).trans b01.out
  have HB2:=Q00 (h0.out.trans (hb2.mono h0.out.size))
  have hz4:w1.heap.size < W2.heap.size:=by rw [←hW2];simp
  have HO2:Hid (W2.ownsRow W0.heap.size Q0k 5 (.slice (some ⟨g,0,none⟩) l.length l.length) l.length ((Q1L Q0e l 0).flatMap Q0e.cs)):=by
   have h:W2.ownsRow W0.heap.size Q0k 5 (.slice (some ⟨g,0,none⟩) l.length l.length) (List.replicate l.length sl0).length ((List.replicate l.length sl0).flatMap Q0e.cs):=Q0a hown hbW
   rw [List.length_replicate] at h
   unfold Hid
   rw [Q46]
   exact h
  clear hown hb1 hbW hb2 c00 b01 hW0
  have hzz:w.heap.size+1 < w1.heap.size:=by omega
  go_wp2
  go_loopw [27] (fun i wr=> ∃k:Nat,k≤l.length∧i=.int .i64 k∧Hid (Q3x l k)∧Hid (wr.ownsRow W0.heap.size Q0k 5 (.slice (some ⟨g,0,none⟩) l.length l.length) l.length ((Q1L Q0e l k).flatMap Q0e.cs))∧Hid (wr.heap[w.heap.size+1]? =some (.cells #[.slice none 0 0] 63 (0,0)))∧Hid (wr.heap[w1.heap.size]? =some (.cells #[.slice (some ⟨g,0,none⟩) l.length l.length] 63 (0,0)))∧Hid (Below w.heap.size w wr)∧w1.heap.size < wr.heap.size)
   (fun i _=> l.length - (intOf i).toNat)
  case atStart=> exact ⟨0,Kcq _,rfl,fun i hi=> absurd hi (Nat.not_lt_zero _),HO2,b21,b24,HB2,hz4⟩
  case round=>
   clear HO2 b21 b24 HB2 c20 hW2
   obtain ⟨k,hk,rfl,hT,HO,HR,HT4,HBr,hsz⟩:=hrel
   have r1:=Q02 HR.out 0 _ rfl
   have f1:wr.frozen? ⟨w.heap.size+1,0,none⟩=false:=by have h:=HR.out;simp [World.frozen?,h]
   by_cases hlt:k < l.length
   ·obtain ⟨s,hxy⟩:∃s,l.getD k sl0=s:=⟨_,rfl⟩
    have hcx:=RdL.slot (C:=w.heap.size) HC.out k hlt
    rw [hxy] at hcx
    have e0:=(HBr.out.cell (p:=⟨b,off+k * 5,none⟩) hbl).trans hcx.1
    have e1:=(HBr.out.cell (p:=⟨b,off+k * 5+1,none⟩) hbl).trans hcx.2.1
    have e2:=(HBr.out.cell (p:=⟨b,off+k * 5+2,none⟩) hbl).trans hcx.2.2.1
    have e3:=(HBr.out.cell (p:=⟨b,off+k * 5+3,none⟩) hbl).trans hcx.2.2.2.1
    have e4:=(HBr.out.cell (p:=⟨b,off+k * 5+4,none⟩) hbl).trans hcx.2.2.2.2
    have hk':(k:Int) < (l.length:Int):=by omega
    obtain ⟨W3,hW3⟩:∃W,wr.alloc (.cells #[.bool s.u,.int .i64 s.a,.int .i64 s.p,.int .i64 s.v,.int .i64 s.t] 84)=W:=⟨_,rfl⟩
    have hb3:Below wr.heap.size wr W3:=by rw [←hW3];exact (Below.refl _ _).alloc (Kaq _) _
    have HX:=Q00 hxy
    have Hb3:=Q00 hb3
    have g0:W3.cell? ⟨wr.heap.size,0,none⟩=some (.bool s.u):=by rw [←hW3];simp [go_sem]
    have g1:W3.cell? ⟨wr.heap.size,1,none⟩=some (.int .i64 s.a):=by rw [←hW3];simp [go_sem]
    have g2:W3.cell? ⟨wr.heap.size,2,none⟩=some (.int .i64 s.p):=by rw [←hW3];simp [go_sem]
    have g3:W3.cell? ⟨wr.heap.size,3,none⟩=some (.int .i64 s.v):=by rw [←hW3];simp [go_sem]
    have g4:W3.cell? ⟨wr.heap.size,4,none⟩=some (.int .i64 s.t):=by rw [←hW3];simp [go_sem]
    clear hcx hxy hb3
    go_wp2_with fail
    refine (Q4T s W3).mono ?_
    rintro e w4 ⟨s',rfl,hs',hb4⟩
    obtain ⟨W5,hW5⟩:∃W,w4.alloc (.cells #[.bool s'.u,.int .i64 s'.a,.int .i64 s'.p,.int .i64 s'.v,.int .i64 s'.t] 102)=W:=⟨_,rfl⟩
    have hb5:Below wr.heap.size wr W5:=Hb3.out.trans ((hb4.trans (by rw [←hW5];exact (Below.refl _ _).alloc (by have:=hb4.size;omega) _)).mono Hb3.out.size)
    have q0:W5.cell? ⟨w4.heap.size,0,none⟩=some (.bool s'.u):=by rw [←hW5];simp [go_sem]
    have q1:W5.cell? ⟨w4.heap.size,1,none⟩=some (.int .i64 s'.a):=by rw [←hW5];simp [go_sem]
    have q2:W5.cell? ⟨w4.heap.size,2,none⟩=some (.int .i64 s'.p):=by rw [←hW5];simp [go_sem]
    have q3:W5.cell? ⟨w4.heap.size,3,none⟩=some (.int .i64 s'.v):=by rw [←hW5];simp [go_sem]
    have q4:W5.cell? ⟨w4.heap.size,4,none⟩=some (.int .i64 s'.t):=by rw [←hW5];simp [go_sem]
    have HB5:=Q00 (HBr.out.trans (hb5.mono HBr.out.size))
    have HR5:Hid (W5.heap[w.heap.size+1]? =some (.cells #[.slice none 0 0] 63 (0,0))):=(hb5.block _ (by omega)).trans HR.out
    have HT5:Hid (W5.heap[w1.heap.size]? =some (.cells #[.slice (some ⟨g,0,none⟩) l.length l.length] 63 (0,0))):=(hb5.block _ hsz).trans HT4.out
    have hsz5:w1.heap.size < W5.heap.size:=Kbq hsz hb5.size
    have hown5:=Q0a HO.out hb5
    clear Hb3 hb4 hb5 g0 g1 g2 g3 g4 e0 e1 e2 e3 e4 r1 f1 HR HT4 HBr HO hW3
    cases hsb:Q1i s with
    |false=>
     have HN:=Q00 (Q1w hlt (Q2l (by rw [HX.out];exact hsb)))
     have r1:=Q02 HR5.out 0 _ rfl
     have f1:W5.frozen? ⟨w.heap.size+1,0,none⟩=false:=by have h:=HR5.out;simp [World.frozen?,h]
     clear hown5 hsb hs' hT
     go_wp2
     refine bodyPost_ret (v:=.tuple #[tab (.slice none 0 0),.bool false]) (by simp [results,Try.results49,go_sem,r1]) rfl ⟨_,_,_,by rw [←HN.out],.inl ⟨rfl,HN.out.symm⟩, ?_⟩
     exact HB5.out.setCell (p:=⟨w.heap.size+1,0,none⟩) (by simp) _
    |true=>
     obtain rfl:=hs' hsb
     have HT:=Q00 (Q5l hT.out (by rw [HX.out];exact hsb))
     have t4:=Q02 HT5.out 0 _ rfl
     have hln:((Q1L Q0e l k).flatMap Q0e.cs).length=l.length * 5:=by rw [Q0u,Q32 Q0e l k hk];rfl
     obtain ⟨u0,hu0⟩:∃u,W5.cell? ⟨g,k * 5,none⟩=some u:=⟨_,(hown5.cellAt (k * 5) (by omega)).trans (List.getElem?_eq_getElem (by omega))⟩
     have hf0:=hown5.frozenAt (k * 5)
     obtain ⟨u1,hu1⟩:∃u,W5.cell? ⟨g,k * 5+1,none⟩=some u:=⟨_,(hown5.cellAt (k * 5+1) (by omega)).trans (List.getElem?_eq_getElem (by omega))⟩
     have hf1:=hown5.frozenAt (k * 5+1)
     obtain ⟨u2,hu2⟩:∃u,W5.cell? ⟨g,k * 5+2,none⟩=some u:=⟨_,(hown5.cellAt (k * 5+2) (by omega)).trans (List.getElem?_eq_getElem (by omega))⟩
     have hf2:=hown5.frozenAt (k * 5+2)
     obtain ⟨u3,hu3⟩:∃u,W5.cell? ⟨g,k * 5+3,none⟩=some u:=⟨_,(hown5.cellAt (k * 5+3) (by omega)).trans (List.getElem?_eq_getElem (by omega))⟩
     have hf3:=hown5.frozenAt (k * 5+3)
     obtain ⟨u4,hu4⟩:∃u,W5.cell? ⟨g,k * 5+4,none⟩=some u:=⟨_,(hown5.cellAt (k * 5+4) (by omega)).trans (List.getElem?_eq_getElem (by omega))⟩
     have hf4:=hown5.frozenAt (k * 5+4)
     have HR6:=Q00 (Q1I (k:=k) s' hg0 hown5 (Below.refl W0.heap.size W5))
     have HX2:=Q00 (show (Q1L Q0e l k).set k s'=Q1L Q0e l (k+1) by rw [←HX.out];exact Q4U Q0e l k hlt)
     clear hown5 hln hsb hs' hT
     go_wp2
     go_roundw
     case rel=> exact ⟨k+1,hlt,by go_num,HT,(by have h:=HR6.out.1;rw [HX2.out] at h;exact h),(HR6.out.2.block _ hz0).trans HR5.out,(by
       repeat (refine (Below.heap_setCell _ _ _ _ (by simp;omega)).trans ?_)
       exact HT5.out),HB5.out.trans (HR6.out.2.mono (by have:=h0.out.size;omega)),Kbq hsz5 HR6.out.2.size⟩
     case measure=> simp [intOf];omega
   ·have e:k=l.length:=by omega
    subst e
    have hrow:=HO.out
    rw [Q4R] at hrow
    have HRow:=Q00 hrow
    clear hrow HO
    have t4:=Q02 HT4.out 0 _ rfl
    have hgr:g < wr.heap.size:=by omega
    have hrB:=ownsRow_setCell_below HRow.out (a:=⟨w.heap.size+1,0,none⟩) (show w.heap.size+1 < W0.heap.size from hz0) (.slice (some ⟨g,0,none⟩) l.length l.length)
    have hA:=Q1W g 0 l.length l wr.drew (by omega) hl hT.out hgr (fun i hi j hj=> Q0n HRow.out rfl i hi j hj)
    have hBw:=Q1W g 0 l.length l (wr.setCell ⟨w.heap.size+1,0,none⟩ (.slice (some ⟨g,0,none⟩) l.length l.length)).drew (by omega) hl hT.out (by simpa using hgr) (fun i hi j hj=> Q0n hrB rfl i hi j hj)
    rw [Q4p hn h16 hT.out] at hA hBw
    have HrB:=Q00 hrB
    have HRowD:Hid (wr.drew.ownsRow W0.heap.size Q0k 5 (.slice (some ⟨g,0,none⟩) l.length l.length) l.length (l.flatMap Q0e.cs)):=HRow.out
    have hs1:w.heap.size+1 < wr.heap.size:=by omega
    have hs2:w.heap.size+1 < (wr.setCell ⟨w.heap.size+1,0,none⟩ (.slice (some ⟨g,0,none⟩) l.length l.length)).heap.size:=by simpa using hs1
    have cB:(wr.setCell ⟨w.heap.size+1,0,none⟩ (.slice (some ⟨g,0,none⟩) l.length l.length)).cell? ⟨w.heap.size+1,0,none⟩=some (.slice (some ⟨g,0,none⟩) l.length l.length):=World.cell?_setCell_same' wr ⟨w.heap.size+1,0,none⟩ _ (by rw [r1];rfl)
    clear hrB hT
    go_wp2
    first|(go_region_with (first|(go_at_call 76;refine hA.mono ?_;rintro e w2 ⟨rfl,hb2⟩;have m1:=(hb2.cell (p:=⟨w.heap.size+1,0,none⟩) hs1).trans r1;have mf:=(hb2.frozen (p:=⟨w.heap.size+1,0,none⟩) hs1).trans f1;have m4:=(hb2.cell (p:=⟨w1.heap.size,0,none⟩) hsz).trans t4;have HbA:=Q00 hb2;clear hb2)|(go_at_call 76;refine hBw.mono ?_;rintro e w3 ⟨rfl,hb3⟩;have m1:=(hb3.cell (p:=⟨w.heap.size+1,0,none⟩) hs2).trans cB;have HbB:=Q00 hb3;clear hb3)))|fail
    all_goals go_wp2
    all_goals refine bodyPost_ret (v:=.tuple #[tab (.slice (some ⟨g,0,none⟩) l.length l.length),.bool (Q0b l)]) (by simp [results,Try.results49,go_sem,m1]) rfl ⟨_,_,_,rfl,.inr ⟨g,rfl,rfl,rfl, ?_⟩, ?_⟩
    all_goals first
     |exact Q0x (ownsRow_setCell_below (Q0a HRowD.out HbA.out) (show w.heap.size+1 < W0.heap.size from hz0) _) h0.out.size
     |exact ((Below.drew HBr.out).trans (HbA.out.mono (Kdq (Nat.le_succ _) (Nat.le_of_lt hs1)))).setCell (p:=⟨w.heap.size+1,0,none⟩) (by simp) _
 ·have HN:=Q00 (Q38 hlen)
  by_cases h1:(l.length:Int) < 1
  ·go_enter Try.func49,Try.ntmps49
   go_wp2
   refine bodyPost_ret (v:=.tuple #[tab (.slice none 0 0),.bool false]) (by simp [results,Try.results49,go_sem]) rfl ⟨_,_,_,by rw [←HN.out],.inl ⟨rfl,HN.out.symm⟩, ?_⟩
   (repeat (first|with_reducible (first|exact hB|exact Below.refl _ _|refine Below.drew ?_|refine below_drewN ?_ _|refine Below.alloc ?_ ?_ _|refine Below.setCell ?_ ?_ _)|(focus (simp;first|done|omega))|omega))
  ·have h2:(16:Int) < l.length:=by omega
   go_enter Try.func49,Try.ntmps49
   go_wp2
   refine bodyPost_ret (v:=.tuple #[tab (.slice none 0 0),.bool false]) (by simp [results,Try.results49,go_sem]) rfl ⟨_,_,_,by rw [←HN.out],.inl ⟨rfl,HN.out.symm⟩, ?_⟩
   (repeat (first|with_reducible (first|exact hB|exact Below.refl _ _|refine Below.drew ?_|refine below_drewN ?_ _|refine Below.alloc ?_ ?_ _|refine Below.setCell ?_ ?_ _)|(focus (simp;first|done|omega))|omega))
theorem Q2K (o:Option Addr) (c:Nat) (l:List Sl) (w:World) (hR:RdS w.heap.size w o l) (hl:l.length≤1048576):
  Calls Try.prog 49 #[tab (.slice o l.length c)] w fun e w'=> ∃o' n' c',e=.returned (.tuple #[tab (.slice o' n' c'),.bool (Q0b l)])∧(Q0b l=true→∃g,o'=some ⟨g,0,none⟩∧n'=l.length∧c'=l.length∧ownL Q0e Q0k w' w.heap.size (.slice (some ⟨g,0,none⟩) l.length l.length) l)∧Below w.heap.size w w':=by
 refine (Q4w o c l w hR hl).mono ?_
 rintro e w' ⟨o',n',c',rfl,h,hb⟩
 refine ⟨o',n',c',rfl,fun ht=> ?_,hb⟩
 rcases h with ⟨_,h⟩|h
 ·rw [ht] at h;cases h
 ·exact h
end Go.Proofs.Ytljogkoaaidlcaa
