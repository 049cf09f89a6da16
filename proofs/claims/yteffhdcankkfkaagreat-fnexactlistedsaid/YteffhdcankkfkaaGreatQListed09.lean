/- The library's up and down over the scoreboard. -/
import Derived.RangeFuncStops
import Derived.Shelf.Abstract
import Derived.Test.YteffhdcankkfkaaGreatQListed08
namespace Go.Proofs.YteffhdcankkfkaaGreat
open Go.ChangeShapes Go.WideShapes Go.ChangeAt Go.RowKit Go.Joins
set_option linter.unusedVariables false
set_option linter.unusedSimpArgs false
set_option maxRecDepth 100000
set_option maxHeartbeats 40000000
theorem Q2z (w:World) (n:Nat) (r:Option Nat):w.grownBy (w.drewN n) r:=⟨rfl,rfl,rfl,Kaq _,fun _ _ _=>rfl⟩
structure Brd (k g c:Nat) (w:World) (l:List Sc):Prop where
 box:w.heap[k]? =some (.cells #[.slice (some ⟨g,0,none⟩) l.length c] 358 (0,0))
 row:QdT w (k+1) (.slice (some ⟨g,0,none⟩) l.length c) l
theorem Brd.cell {k g c:Nat} {w:World} {l:List Sc} (h:Brd k g c w l):w.cell? ⟨k,0,none⟩=some (.slice (some ⟨g,0,none⟩) l.length c):=by
 simp[World.cell?,h.box]
theorem Brd.ge {k g c:Nat} {w:World} {l:List Sc} (h:Brd k g c w l):k+1<=g:=(h.row.lt g rfl).1
theorem Brd.lt {k g c:Nat} {w:World} {l:List Sc} (h:Brd k g c w l):g < w.heap.size:=(h.row.lt g rfl).2
theorem Brd.drewN {k g c:Nat} {w:World} {l:List Sc} (h:Brd k g c w l) (q:Nat):Brd k g c (w.drewN q) l:=⟨h.box,h.row⟩
theorem Brd.swap {k g c:Nat} {w b:World} {l:List Sc} {i j:Nat} (h:Brd k g c w l) (f:QdT b (k+1) (.slice (some ⟨g,0,none⟩) l.length c) (Q28 l i j)) (d:w.grownBy b (some g)):Brd k g c b (Q28 l i j):=by
 refine⟨?_,by rw[Q0J];exact f⟩;rw[Q0J];have a:k < w.heap.size:=(KEq h.box);exact(d.block k a (by have:=h.ge;simp;omega)).trans h.box
theorem Qi0 (k g c:Nat) (l:List Sc) (j:Nat) (w:World) (hb:Brd k g c w l) (hj:j < l.length) (hok:okD l) (hinv:QcJ l l.length j) (hlen:l.length<=1048576):
  Calls Tryz.prog 272 #[.iface 356 (.pointer (some ⟨k,0,none⟩)),.int .i64 j] w fun e w'=>e=.returned (.tuple #[])/\∃l',Brd k g c w' l'/\Q3j l' l.length/\Same l l' l.length/\okD l'/\w.grownBy w' (some g):=by
 have eL:∀args w,(callFunc 295 args).run Tryz.prog w=.ok (.enter 295 args) w:=enters_of Tryz.func295 (by kernel_rfl) rfl
 have eS:∀args w,(callFunc 298 args).run Tryz.prog w=.ok (.enter 298 args) w:=enters_of Tryz.func298 (by kernel_rfl) rfl
 go_enter Tryz.func272,Tryz.ntmps272;go_wp2
 go_loopw [1] (fun jv wr=> ∃(q:Nat) (lq:List Sc),jv=.int .i64 q/\q < l.length/\lq.length=l.length/\Brd k g c wr lq/\QcJ lq l.length q/\Same l lq l.length/\okD lq/\w.grownBy wr (some g))
  (fun jv _=>(intOf jv).toNat)
 case atStart=>exact⟨j,l,rfl,hj,rfl,hb,hinv,Same.refl _ _,hok,World.grownBy.refl _ _⟩
 case round=>
  obtain⟨q,lq,rfl,hq,hlq,hbq,hiq,hsq,hoq,hgq⟩:=hrel;have hcell:=hbq.cell
  rcases Nat.eq_zero_or_pos q with h0|h0
  ·subst h0
   have HF:=Q00 (Qf5 hiq (.inl rfl));go_wp2
   go_end0
   exact⟨rfl,lq,hbq,HF.out,hsq,hoq,hgq⟩
  ·obtain⟨p,hp⟩:∃p,p=(q - 1) / 2:=⟨_,rfl⟩
   have hpi:((q:Int) - 1) / 2=(p:Int):=by omega
   have hpq:p < q:=by omega
   have HP:=Q00 hp;clear hp
   have mL:∀n,Sem.run Tryz.prog (method 488 356 (.pointer (some ⟨k,0,none⟩)) "Less") (wr.drewN n)=.ok (295,.slice (some ⟨g,0,none⟩) lq.length c) (wr.drewN n):=fun n=>Q0C Q4G (hbq.drewN n).cell
   have mL0:Sem.run Tryz.prog (method 488 356 (.pointer (some ⟨k,0,none⟩)) "Less") wr=.ok (295,.slice (some ⟨g,0,none⟩) lq.length c) wr:=Q0C Q4G hcell
   have mS:∀n,Sem.run Tryz.prog (method 488 356 (.pointer (some ⟨k,0,none⟩)) "Swap") (wr.drewN n)=.ok (298,.slice (some ⟨g,0,none⟩) lq.length c) (wr.drewN n):=fun n=>Q0C Q4T (hbq.drewN n).cell
   have hle:=Q2G (some ⟨g,0,none⟩) c lq q p wr wr.heap.size hbq.row.rd (by omega) (by omega) (by omega);rw[Q1r (hoq q (by omega)) (hoq p (by omega))]at hle
   have qp:¬((p:Int)=(q:Int)):=by omega
   have qpb:((p:Int)==(q:Int))=false:=by simp;omega
   by_cases hlt:fr lq q < fr lq p
   ·rw[decide_eq_true hlt]at hle
    have HS:=Q00 (fun m=>Q2H (k+1) g c lq p q (wr.drewN m) (hbq.drewN m).row (by omega) (by omega) (by omega));have HU:=Q00 (QhR hiq HP.out (by omega) (by omega) (by omega) hlt);have HM:=Q00 (Same.trans hsq (Q3P (l:=lq) p q l.length (by omega) (by omega) (by omega)));have HO:=Q00 (Q4o p q (by omega) (by omega) hoq);have HG:=Q00 hgq;have HB:=Q00 hbq;have HLQ:=Q00 hlq;clear hgq hbq hiq hsq hoq hlt hcell hlq;go_wp2_with (first|(go_at_call 295;refine hle.mono ?_;rintro e w1 ⟨rfl,m1,rfl⟩)|(go_at_call 298;refine(HS.out _).mono ?_;rintro e w2 ⟨rfl,ho2,hg2⟩;clear mL mL0 mS));go_roundw
    case rel=>exact⟨p,Q28 lq p q,rfl,by omega,by rw[Q0J];exact HLQ.out,(HB.out.drewN m1).swap ho2 hg2,HU.out,HM.out,HO.out,Q1g HG.out (Q1g (Q2z wr m1 _) hg2)⟩
    case measure=>simp[intOf];omega
   ·rw[decide_eq_false hlt]at hle
    have HF:=Q00 (Qf5 hiq (.inr (by rw[<-HP.out];omega)));have HG:=Q00 hgq;have HB:=Q00 hbq;clear hgq hbq hiq hlt hcell hlq;go_wp2_with (first|(go_at_call 295;refine hle.mono ?_;rintro e w1 ⟨rfl,m1,rfl⟩))
    go_end0
    exact⟨rfl,lq,HB.out.drewN _,HF.out,hsq,hoq,Q1g HG.out (Q2z wr _ _)⟩
end Go.Proofs.YteffhdcankkfkaaGreat
