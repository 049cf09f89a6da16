/- The program's flows, CountOf. -/
import Derived.Test.YtljogkoaaidlcaaQHandL08
import Derived.Test.YtljogkoaaidlcaaQHandL09
namespace Go.Proofs.Ytljogkoaaidlcaa
open Go.ChangeShapes Go.WideShapes Go.ChangeAt Go.RowKit Go.Joins
set_option linter.unusedVariables false
set_option linter.unusedSimpArgs false
set_option maxRecDepth 100000
set_option maxHeartbeats 40000000
def Q1a (l:List Sl) (k:Nat):List (Int × Int):=((l.take k).filter (fun s=> s.u)).map (fun s=> (s.a,s.p))
theorem Q3p (l:List Sl) (k:Nat):(Q1a l k).length=Q1E l k:=by unfold Q1a Q1E;rw [List.length_map]
theorem Q4O {l:List Sl} {k:Nat} (h:k < l.length) (hu:(l.getD k sl0).u=false):Q1a l (k+1)=Q1a l k:=by
 unfold Q1a
 rw [Q2k Q0e l k h,List.filter_append,show List.filter (fun s:Sl=> s.u) [l.getD k Q0e.d]=[] from List.filter_cons_of_neg (by rw [show l.getD k Q0e.d=l.getD k sl0 from rfl,hu];decide),List.append_nil]
theorem Q51 {l:List Sl} {k:Nat} (h:k < l.length) (hu:(l.getD k sl0).u=true):Q1a l (k+1)=Q1a l k++[((l.getD k sl0).a,(l.getD k sl0).p)]:=by
 unfold Q1a
 rw [Q2k Q0e l k h,List.filter_append,show List.filter (fun s:Sl=> s.u) [l.getD k Q0e.d]=[l.getD k sl0] from List.filter_cons_of_pos hu,List.map_append];rfl
theorem Q6S (b off c:Nat) (l:List Sl) (w:World) (hbl:b < w.heap.size) (hc:∀i,i < l.length→∀j,j < Q0e.k→w.cell? ⟨b,off+i * Q0e.k+j,none⟩=(Q0e.cs (l.getD i Q0e.d))[j]?) (hl:l.length≤1048576):
  Calls Try.prog 102 #[tab (.slice (some ⟨b,off,none⟩) l.length c)] w fun e w'=> ∃v,e=.returned v∧ownL Q7a 29 w' w.heap.size v (Q1a l l.length)∧Below w.heap.size w w':=by
 have HC:=Q00 hc
 clear hc
 obtain ⟨W0,hW0⟩:∃W,(w.alloc (.cells #[.slice (some ⟨b,off,none⟩) l.length c] 63))=W:=⟨_,rfl⟩
 have hb_W0:Below w.heap.size w W0:=by rw [←hW0];exact ((Below.refl _ _).alloc (Kaq _) _)
 have HB:=Q00 hb_W0
 clear hb_W0
 have zct:w.heap.size < W0.heap.size:=by rw [←hW0];simp
 have ct0:W0.cell? ⟨w.heap.size,0,none⟩=some (.slice (some ⟨b,off,none⟩) l.length c):=by rw [←hW0];simp [go_sem]
 have HZ:=Q00 HB.out.size
 go_enter Try.func102,Try.ntmps102
 go_wp2
 go_loopw [3,9] (fun ov iv wr=> ∃k:Nat,k≤l.length∧iv=.int .i64 k∧Hid (ownL Q7a 29 wr W0.heap.size ov (Q1a l k))∧Hid (Below W0.heap.size W0 wr))
  (fun _ iv _=> l.length - (intOf iv).toNat)
 case atStart=> exact ⟨0,Kcq _,rfl,World.ownsRow_nil _ _ _ _,Below.refl _ _⟩
 case round=>
  obtain ⟨k,hk,rfl,HO,HBr⟩:=hrel
  by_cases hlt:k < l.length
  ·have HB2:=Q00 (HB.out.trans (HBr.out.mono HB.out.size))
   have hcx:=RdL.slot (C:=w.heap.size) HC.out k hlt
   obtain ⟨s,hxy⟩:∃s,l.getD k sl0=s:=⟨_,rfl⟩
   rw [hxy] at hcx
   have e0:=(HB2.out.cell (p:=⟨b,off+k * 5,none⟩) hbl).trans hcx.1
   have e1:=(HB2.out.cell (p:=⟨b,off+k * 5+1,none⟩) hbl).trans hcx.2.1
   have e2:=(HB2.out.cell (p:=⟨b,off+k * 5+2,none⟩) hbl).trans hcx.2.2.1
   have e3:=(HB2.out.cell (p:=⟨b,off+k * 5+3,none⟩) hbl).trans hcx.2.2.2.1
   have e4:=(HB2.out.cell (p:=⟨b,off+k * 5+4,none⟩) hbl).trans hcx.2.2.2.2
   have hk':(k:Int) < (l.length:Int):=by omega
   have HX:=Q00 hxy
   have hcl:=Q2e l k
   rw [←Q3p] at hcl
   obtain ⟨su,sa,sp,sv,st⟩:=s
   simp only at e0 e1 e2 e3 e4
   clear hcx hxy
   have HBa:=Q00 (HBr.out.alloc HBr.out.size (.cells #[.bool su,.int .i64 sa,.int .i64 sp,.int .i64 sv,.int .i64 st] 102))
   have HOa:=Q00 (World.ownsRow.alloc HO.out (.cells #[.bool su,.int .i64 sa,.int .i64 sp,.int .i64 sv,.int .i64 st] 102))
   cases su with
   |false=>
    have HN:=Q00 (Q4O hlt (by rw [HX.out]))
    go_wp2
    go_roundw
    case rel=> exact ⟨k+1,hlt,by go_num,(by unfold Hid;rw [HN.out];exact HOa.out),HBa⟩
    case measure=> simp [intOf];omega
   |true=>
    have HN:=Q00 (Q51 hlt (by rw [HX.out]))
    rw [HX.out] at HN
    obtain ⟨W1,hW1⟩:∃W,wr.alloc (.cells #[.bool true,.int .i64 sa,.int .i64 sp,.int .i64 sv,.int .i64 st] 102)=W:=⟨_,rfl⟩
    rw [hW1] at HBa HOa
    have g0:W1.cell? ⟨wr.heap.size,0,none⟩=some (.bool true):=by rw [←hW1];simp [go_sem]
    have g1:W1.cell? ⟨wr.heap.size,1,none⟩=some (.int .i64 sa):=by rw [←hW1];simp [go_sem]
    have g2:W1.cell? ⟨wr.heap.size,2,none⟩=some (.int .i64 sp):=by rw [←hW1];simp [go_sem]
    have F:=Q00 (World.ownsRow.alloc HOa.out (.cells #[.int .i64 sa,.int .i64 sp] 29))
    clear HO HBr
    go_wp2_with (at_builtin;refine Q1O Q8y rfl _ _ rfl W0.heap.size _ (Q1a l k) rfl F.out (some ⟨W1.heap.size,0,none⟩) 1 _ [(sa,sp)] 1 rfl rfl (fun h=> by cases h) (Q7i W1 sa sp) ?e2 ?e3 ?_)
    case e2=> omega
    case e3=> exact Kdq HBa.out.size (by simp)
    intro v2 w2 hv2 hg2 _
    have HR:=Q00 (show ownL Q7a 29 w2 W0.heap.size v2 (Q1a l (k+1))∧Below W0.heap.size W0 w2 from ⟨by rw [HN.out];exact hv2,(HBa.out.alloc HBa.out.size _).grown hg2 (Kdq HBa.out.size (by simp)) (fun q h=> (F.out.lt q h).1)⟩)
    clear hv2 hg2 F
    go_wp2
    go_roundw
    case rel=> exact ⟨k+1,hlt,by go_num,HR.out.1,HR.out.2⟩
    case measure=> simp [intOf];omega
  ·have e:k=l.length:=by omega
   subst e
   go_wp2
   go_ret
   exact ⟨_,rfl,Q0x HO.out HZ.out,HB.out.trans (HBr.out.mono HB.out.size)⟩
end Go.Proofs.Ytljogkoaaidlcaa
