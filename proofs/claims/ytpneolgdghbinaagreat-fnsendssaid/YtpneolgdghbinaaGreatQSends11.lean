/- Hints out of a table: the program's hintsFrom. -/
import Derived.Test.YtpneolgdghbinaaGreatQSends08
import Derived.Test.YtpneolgdghbinaaGreatQSends10
namespace Go.Proofs.YtpneolgdghbinaaGreat
open Go.ChangeShapes Go.WideShapes Go.ChangeAt Go.RowKit Go.Joins
set_option linter.unusedVariables false
set_option linter.unusedSimpArgs false
set_option maxRecDepth 100000
set_option maxHeartbeats 40000000
def isV (s:Sl):Bool:=decide (0≤s.v) && decide (s.v < 6)
def Q6d (l:List Sl):Bool:=Q0l l && l.all isV
theorem QcP (l:List Sl) (k:Nat) (h:k < l.length):(l.take (k+1)).all isV=((l.take k).all isV && isV (l.getD k sl0)):=by
 rw [List.take_succ_eq_append_getElem h,List.all_append]
 simp [h]
theorem Q8r (o:Option Addr) (n c:Nat) (l:List Sl) (w:World) (hn:n=l.length) (hR:RdS w.heap.size w o l) (hl:l.length≤1048576):
  Calls Tryz.prog 85 #[tab (.slice o n c)] w fun e w'=> ∃o' n' c',e=.returned (.tuple #[tab (.slice o' n' c'),.bool (Q6d l)])∧(Q0l l=true→∃g,o'=some ⟨g,0,none⟩∧n'=l.length∧c'=l.length∧ownL Q0h Q4l w' w.heap.size (.slice (some ⟨g,0,none⟩) l.length l.length) l)∧Below w.heap.size w w':=by
 have HTF:=Q02 (fun W (hb:Below w.heap.size w W)=> Q8H o c l W ((hR.kept hb (Kaq _)).le hb.size) hl)
 have HHB:=Q02 (show Q6d l=(Q0l l && l.all isV) from rfl)
 rw [←hn] at HTF
 have HN:=Q02 hn;clear hR hn;obtain ⟨W0,hW0⟩:∃W,((w.alloc (.cells #[.slice o n c] 32)).alloc (.cells #[.slice none 0 0] 91))=W:=⟨_,rfl⟩
 have hb_W0:Below w.heap.size w W0:=by rw [←hW0];exact (((Below.refl _ _).alloc (Kaq _) _).alloc (by simp <;> omega) _)
 have HB:=Q02 hb_W0;clear hb_W0
 have zz:w.heap.size < W0.heap.size:=by rw [←hW0];simp <;> omega
 have z0:W0.cell? ⟨w.heap.size,0,none⟩=some (.slice o n c):=by rw [←hW0];simp [go_sem]
 have zr:w.heap.size+1 < W0.heap.size:=by rw [←hW0];simp
 have r0:W0.cell? ⟨w.heap.size+1,0,none⟩=some (.slice none 0 0):=by rw [←hW0];simp [go_sem]
 have fr0:W0.frozen? ⟨w.heap.size+1,0,none⟩=false:=by rw [←hW0];simp [go_sem]
 have hzr:=zr
 go_enter Tryz.func85,Tryz.ntmps85
 go_wp2_with fail
 refine (HTF.out W0 HB.out).mono ?_
 rintro e v1 ⟨o1,n1,c1,rfl,hway,hb⟩
 have HWY:=Q02 hway;clear hway;have hs1:=hb.size;replace z0:v1.cell? ⟨w.heap.size,0,none⟩=some (.slice o n c):=(hb.cell (p:=⟨w.heap.size,0,none⟩) zz).trans z0;replace zz:w.heap.size < v1.heap.size:=Kbq zz hb.size;replace r0:v1.cell? ⟨w.heap.size+1,0,none⟩=some (.slice none 0 0):=(hb.cell (p:=⟨w.heap.size+1,0,none⟩) zr).trans r0;replace fr0:v1.frozen? ⟨w.heap.size+1,0,none⟩=false:=(hb.frozen (p:=⟨w.heap.size+1,0,none⟩) zr).trans fr0;replace zr:w.heap.size+1 < v1.heap.size:=Kbq zr hb.size;replace HB:=Q02 (HB.out.trans (hb.mono HB.out.size));clear hb
 obtain ⟨W2,hW2⟩:∃W,(v1.alloc (.cells #[.slice o1 n1 c1] 89))=W:=⟨_,rfl⟩
 have hb_W2:Below v1.heap.size v1 W2:=by rw [←hW2];exact ((Below.refl _ _).alloc (Kaq _) _)
 replace z0:W2.cell? ⟨w.heap.size,0,none⟩=some (.slice o n c):=(hb_W2.cell (p:=⟨w.heap.size,0,none⟩) zz).trans z0;replace zz:w.heap.size < W2.heap.size:=Kbq zz hb_W2.size;replace r0:W2.cell? ⟨w.heap.size+1,0,none⟩=some (.slice none 0 0):=(hb_W2.cell (p:=⟨w.heap.size+1,0,none⟩) zr).trans r0;replace fr0:W2.frozen? ⟨w.heap.size+1,0,none⟩=false:=(hb_W2.frozen (p:=⟨w.heap.size+1,0,none⟩) zr).trans fr0;replace zr:w.heap.size+1 < W2.heap.size:=Kbq zr hb_W2.size;replace HB:=Q02 (HB.out.trans (hb_W2.mono HB.out.size));clear hb_W2
 have zf:v1.heap.size < W2.heap.size:=by rw [←hW2];simp
 have f0:W2.cell? ⟨v1.heap.size,0,none⟩=some (.slice o1 n1 c1):=by rw [←hW2];simp [go_sem]
 have hs2:v1.heap.size < W2.heap.size:=by rw [←hW2];simp
 have hbv:Below v1.heap.size v1 W2:=by rw [←hW2];exact (Below.refl _ _).alloc (Kaq _) _
 obtain ⟨tk,htk⟩:∃b,Q0l l=b:=⟨_,rfl⟩
 rw [htk] at HWY HHB ⊢
 have HTK:=Q02 htk;clear htk
 have HEN:Hid ((tk && (l.take n1).all isV)=Q6d l∧n1≤l.length):=by
  rcases HWY.out with ⟨h0,h1⟩|⟨g,hg,hn1,hc1,how⟩
  ·rw [HHB.out,h0,h1];exact ⟨rfl,Kcq _⟩
  ·rw [HHB.out,hn1,HN.out,List.take_length];exact ⟨rfl,Kaq _⟩
 have HCE:Hid (∀k,k < n1→∃g,o1=some ⟨g,0,none⟩∧g < v1.heap.size∧v1.cell? ⟨g,k * 5,none⟩=some (.bool (l.getD k sl0).u)∧v1.cell? ⟨g,k * 5+1,none⟩=some (.int .i64 (l.getD k sl0).a)∧v1.cell? ⟨g,k * 5+2,none⟩=some (.int .i64 (l.getD k sl0).p)∧v1.cell? ⟨g,k * 5+3,none⟩=some (.int .i64 (l.getD k sl0).v)∧v1.cell? ⟨g,k * 5+4,none⟩=some (.int .i64 (l.getD k sl0).t)):=by
  intro k hk
  rcases HWY.out with ⟨h0,h1⟩|⟨g,hg,hn1,hc1,how⟩
  ·omega
  ·refine ⟨g,hg,(how.lt g rfl).2, ?_⟩
   rcases ownL.rd (L:=Q0h) how with h|⟨b,off,e,hb,r⟩
   ·rw [hn1,HN.out,h] at hk;exact absurd hk (Nat.not_lt_zero _)
   ·injection e with e
    injection e with e1 e2 _
    subst e1 e2
    have hk':k < l.length:=by rw [←HN.out,←hn1];exact hk
    have q0:=r k hk' 0 (by decide)
    have q1:=r k hk' 1 (by decide)
    have q2:=r k hk' 2 (by decide)
    have q3:=r k hk' 3 (by decide)
    have q4:=r k hk' 4 (by decide)
    rw [Nat.zero_add] at q0 q1 q2 q3 q4
    exact ⟨q0,q1,q2,q3,q4⟩
 have hl1:n1≤1048576:=by have:=HEN.out.2;omega
 go_wp2
 go_loopw [5,16] (fun okv iv wr=> ∃k:Nat,k≤n1∧iv=.int .i64 (k:Int)∧okv=.bool (tk && (l.take k).all isV)∧Hid (Below W2.heap.size W2 wr))
  (fun _ iv _=> n1 - (intOf iv).toNat)
 case atStart=> exact ⟨0,Kcq _,rfl,by simp,Below.refl _ _⟩
 case round=>
  rename World=> wr
  obtain ⟨k,hk',rfl,rfl,HBr⟩:=hrel
  by_cases hlt:k < n1
  ·have hlt':(k:Int) < (n1:Int):=by omega
   obtain ⟨g,rfl,hg,a0,a1,a2,a3,a4⟩:=HCE.out k hlt;have hBv:=Q02 (hbv.trans (HBr.out.mono (Nat.le_of_lt hs2)));replace a0:=(hBv.out.cell (p:=⟨g,k * 5,none⟩) hg).trans a0;replace a1:=(hBv.out.cell (p:=⟨g,k * 5+1,none⟩) hg).trans a1;replace a2:=(hBv.out.cell (p:=⟨g,k * 5+2,none⟩) hg).trans a2;replace a3:=(hBv.out.cell (p:=⟨g,k * 5+3,none⟩) hg).trans a3;replace a4:=(hBv.out.cell (p:=⟨g,k * 5+4,none⟩) hg).trans a4
   have HTA:=Q02 (QcP l k (by have:=HEN.out.2;omega))
   generalize l.getD k sl0=s at *;obtain ⟨su,sa,sp,sv,st⟩:=s
   dsimp only at a0 a1 a2 a3 a4
   obtain ⟨okk,hokk⟩:∃b,(tk && (l.take k).all isV)=b:=⟨_,rfl⟩
   have HNX:Hid ((tk && (l.take (k+1)).all isV)=(okk && isV ⟨su,sa,sp,sv,st⟩)):=by unfold Hid;rw [HTA.out,←hokk,Bool.and_assoc]
   rw [hokk]
   clear hokk HTA;obtain ⟨W5,hW5⟩:∃W,wr.alloc (.cells #[.bool su,.int .i64 sa,.int .i64 sp,.int .i64 sv,.int .i64 st] 165)=W:=⟨_,rfl⟩
   have hb5:Below wr.heap.size wr W5:=by rw [←hW5];exact (Below.refl _ _).alloc (Kaq _) _
   have y3:W5.cell? ⟨wr.heap.size,3,none⟩=some (.int .i64 sv):=by rw [←hW5];simp [go_sem]
   have HB9:=Q02 (HBr.out.trans (hb5.mono HBr.out.size));clear hb5
   cases okk with
   |false=>
    go_wp2
    go_roundw
    case rel=> exact ⟨k+1,by omega,by go_num,by rw [HNX.out];rfl,HB9.out⟩
    case measure=> simp [intOf];omega
   |true=>
    have HIB:=Q02 (Q3j sv W5);have HIV:=Q02 (show isV ⟨su,sa,sp,sv,st⟩=(decide (0≤sv) && decide (sv < 6)) from rfl);generalize (decide (0≤sv) && decide (sv < 6))=ib at *
    go_wp2_with fail
    refine HIB.out.mono ?_
    rintro e _ ⟨rfl,rfl⟩
    go_wp2
    go_roundw
    case rel=> exact ⟨k+1,by omega,by go_num,by rw [HNX.out,HIV.out];rfl,HB9.out⟩
    case measure=> simp [intOf];omega
  ·have e:k=n1:=by omega
   subst e;have HB9:=Q02 (HB.out.trans (HBr.out.mono HB.out.size));have y0:=(HBr.out.cell (p:=⟨v1.heap.size,0,none⟩) zf).trans f0;have hr:=(HBr.out.cell (p:=⟨w.heap.size+1,0,none⟩) zr).trans r0;have hfr:=(HBr.out.frozen (p:=⟨w.heap.size+1,0,none⟩) zr).trans fr0
   have HOF:Hid (Q0l l=true→∃g,o1=some ⟨g,0,none⟩∧k=l.length∧c1=l.length∧ownL Q0h Q4l (wr.setCell ⟨w.heap.size+1,0,none⟩ (.slice o1 k c1)) w.heap.size (.slice (some ⟨g,0,none⟩) l.length l.length) l):=by
    intro ht
    rcases HWY.out with ⟨h0,h1⟩|⟨g,hg,hn1,hc1,how⟩
    ·rw [←HTK.out,ht] at h1;cases h1
    ·rw [HN.out] at hn1 hc1 how;exact ⟨g,hg,hn1,hc1,Q04 (ownsRow_setCell_below (Q03 (Q03 how hbv) HBr.out) (show w.heap.size+1 < W0.heap.size from hzr) _) (Nat.le_of_lt (Nat.lt_of_succ_lt hzr))⟩
   rw [HEN.out.1]
   go_wp2
   refine bodyPost_ret (v:=.tuple #[tab (.slice o1 k c1),.bool (Q6d l)]) (by simp [results,Tryz.results85,go_sem,hr]) rfl ⟨o1,k,c1,rfl,HOF.out,HB9.out.setCell (p:=⟨w.heap.size+1,0,none⟩) (Nat.le_succ _) _⟩
end Go.Proofs.YtpneolgdghbinaaGreat
