/- The library's up and down over the scoreboard. -/
import Derived.RangeFuncStops
import Derived.Shelf.Abstract
import Derived.Test.YtgplppfbinfelaaGreatQOldest08
namespace Go.Proofs.YtgplppfbinfelaaGreat
open Go.ChangeShapes Go.WideShapes Go.ChangeAt Go.RowKit Go.Joins
set_option linter.unusedVariables false
set_option linter.unusedSimpArgs false
set_option maxRecDepth 100000
set_option maxHeartbeats 40000000
theorem grown_dr (w:World) (n:Nat) (r:Option Nat):w.grownBy (w.drewN n) r:=⟨rfl,rfl,rfl,Nat.le_refl _,fun _ _ _=> rfl⟩
structure Brd (k g c:Nat) (w:World) (l:List Sc):Prop where
 box:w.heap[k]? =some (.cells #[.slice (some ⟨g,0,none⟩) l.length c] 359 (0,0))
 row:ownD w (k+1) (.slice (some ⟨g,0,none⟩) l.length c) l
theorem Brd.cell {k g c:Nat} {w:World} {l:List Sc} (h:Brd k g c w l):w.cell? ⟨k,0,none⟩=some (.slice (some ⟨g,0,none⟩) l.length c):=by
 simp [World.cell?,h.box]
theorem Brd.ge {k g c:Nat} {w:World} {l:List Sc} (h:Brd k g c w l):k+1≤g:=(h.row.lt g rfl).1
theorem Brd.lt {k g c:Nat} {w:World} {l:List Sc} (h:Brd k g c w l):g < w.heap.size:=(h.row.lt g rfl).2
theorem Brd.drewN {k g c:Nat} {w:World} {l:List Sc} (h:Brd k g c w l) (q:Nat):Brd k g c (w.drewN q) l:=⟨h.box,h.row⟩
theorem Brd.swap {k g c:Nat} {w w':World} {l:List Sc} {i j:Nat} (h:Brd k g c w l) (ho:ownD w' (k+1) (.slice (some ⟨g,0,none⟩) l.length c) (swapD l i j)) (hg:w.grownBy w' (some g)):Brd k g c w' (swapD l i j):=by
 refine ⟨?_,by rw [swapD_length];exact ho⟩
 rw [swapD_length]
 have hlt:k < w.heap.size:=(Array.getElem?_eq_some_iff.1 h.box).1
 exact (hg.block k hlt (by have:=h.ge;simp;omega)).trans h.box
theorem up_any (k g c:Nat) (l:List Sc) (j:Nat) (w:World) (hb:Brd k g c w l) (hj:j < l.length) (hok:okD l) (hinv:UpInv l l.length j) (hlen:l.length≤1048576):
  Calls Tryz.prog 272 #[.iface 357 (.pointer (some ⟨k,0,none⟩)),.int .i64 j] w fun e w'=> e=.returned (.tuple #[])∧∃l',Brd k g c w' l'∧HeapP l' l.length∧Same l l' l.length∧okD l'∧w.grownBy w' (some g):=by
 have eL:∀args w,(callFunc 296 args).run Tryz.prog w=.ok (.enter 296 args) w:=enters_of Tryz.func296 (by kernel_rfl) rfl
 have eS:∀args w,(callFunc 299 args).run Tryz.prog w=.ok (.enter 299 args) w:=enters_of Tryz.func299 (by kernel_rfl) rfl
 go_enter Tryz.func272,Tryz.ntmps272
 go_wp2
 go_loopw [1] (fun jv wr=> ∃(q:Nat) (lq:List Sc),jv=.int .i64 q∧q < l.length∧lq.length=l.length∧Brd k g c wr lq∧UpInv lq l.length q∧Same l lq l.length∧okD lq∧w.grownBy wr (some g))
  (fun jv _=> (intOf jv).toNat)
 case atStart=> exact ⟨j,l,rfl,hj,rfl,hb,hinv,Same.refl _ _,hok,World.grownBy.refl _ _⟩
 case round=>
  obtain ⟨q,lq,rfl,hq,hlq,hbq,hiq,hsq,hoq,hgq⟩:=hrel
  have hcell:=hbq.cell
  rcases Nat.eq_zero_or_pos q with h0|h0
  ·subst h0
   have HF:=hide (up_done hiq (.inl rfl))
   go_wp2
   go_end0
   exact ⟨rfl,lq,hbq,HF.out,hsq,hoq,hgq⟩
  ·obtain ⟨p,hp⟩:∃p,p=(q - 1) / 2:=⟨_,rfl⟩
   have hpi:((q:Int) - 1) / 2=(p:Int):=by omega
   have hpq:p < q:=by omega
   have HP:=hide hp
   clear hp
   have mL:∀n,Sem.run Tryz.prog (method 489 357 (.pointer (some ⟨k,0,none⟩)) "Less") (wr.drewN n)=.ok (296,.slice (some ⟨g,0,none⟩) lq.length c) (wr.drewN n):=fun n=> finds_val' methLess (hbq.drewN n).cell
   have mL0:Sem.run Tryz.prog (method 489 357 (.pointer (some ⟨k,0,none⟩)) "Less") wr=.ok (296,.slice (some ⟨g,0,none⟩) lq.length c) wr:=finds_val' methLess hcell
   have mS:∀n,Sem.run Tryz.prog (method 489 357 (.pointer (some ⟨k,0,none⟩)) "Swap") (wr.drewN n)=.ok (299,.slice (some ⟨g,0,none⟩) lq.length c) (wr.drewN n):=fun n=> finds_val' methSwap (hbq.drewN n).cell
   have hle:=sbLess_any (some ⟨g,0,none⟩) c lq q p wr wr.heap.size hbq.row.rd (by omega) (by omega) (by omega)
   rw [lessD_rank (hoq q (by omega)) (hoq p (by omega))] at hle
   have qp:¬((p:Int)=(q:Int)):=by omega
   have qpb:((p:Int)==(q:Int))=false:=by simp;omega
   by_cases hlt:fr lq q < fr lq p
   ·rw [decide_eq_true hlt] at hle
    have HS:=hide (fun m=> sbSwap_any (k+1) g c lq p q (wr.drewN m) (hbq.drewN m).row (by omega) (by omega) (by omega))
    have HU:=hide (up_step hiq HP.out (by omega) (by omega) (by omega) hlt)
    have HM:=hide (Same.trans hsq (swapD_same (l:=lq) p q l.length (by omega) (by omega) (by omega)))
    have HO:=hide (swapD_ok p q (by omega) (by omega) hoq)
    have HG:=hide hgq
    have HB:=hide hbq
    have HLQ:=hide hlq
    clear hgq hbq hiq hsq hoq hlt hcell hlq
    go_wp2_with (first|(go_at_call 296;refine hle.mono ?_;rintro e w1 ⟨rfl,m1,rfl⟩)|(go_at_call 299;refine (HS.out _).mono ?_;rintro e w2 ⟨rfl,ho2,hg2⟩;clear mL mL0 mS))
    go_roundw
    case rel=> exact ⟨p,swapD lq p q,rfl,by omega,by rw [swapD_length];exact HLQ.out,(HB.out.drewN m1).swap ho2 hg2,HU.out,HM.out,HO.out,grown_tr HG.out (grown_tr (grown_dr wr m1 _) hg2)⟩
    case measure=> simp [intOf];omega
   ·rw [decide_eq_false hlt] at hle
    have HF:=hide (up_done hiq (.inr (by rw [←HP.out];omega)))
    have HG:=hide hgq
    have HB:=hide hbq
    clear hgq hbq hiq hlt hcell hlq
    go_wp2_with (first|(go_at_call 296;refine hle.mono ?_;rintro e w1 ⟨rfl,m1,rfl⟩))
    go_end0
    exact ⟨rfl,lq,HB.out.drewN _,HF.out,hsq,hoq,grown_tr HG.out (grown_dr wr _ _)⟩
end Go.Proofs.YtgplppfbinfelaaGreat
