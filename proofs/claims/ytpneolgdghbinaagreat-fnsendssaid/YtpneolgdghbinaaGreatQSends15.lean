/- The library's down over the scoreboard. -/
import Derived.Deep.RegionWith
import Derived.Test.YtpneolgdghbinaaGreatQSends14
namespace Go.Proofs.YtpneolgdghbinaaGreat
open Go.ChangeShapes Go.WideShapes Go.ChangeAt Go.RowKit Go.Joins
set_option linter.unusedVariables false
set_option linter.unusedSimpArgs false
set_option maxRecDepth 100000
set_option maxHeartbeats 40000000
theorem Qf8 (k g c:Nat) (l:List Sc) (n:Nat) (w:World) (hb:Brd k g c w l) (hn:n≤l.length) (hok:okD l) (hinv:Q5A l n 0) (hlen:l.length≤1048576):
  Calls Tryz.prog 180 #[.iface 262 (.pointer (some ⟨k,0,none⟩)),.int .i64 0,.int .i64 n] w fun e w'=> (∃r,e=.returned (.bool r))∧∃l',Brd k g c w' l'∧Q3M l' n∧Same l l' n∧okD l'∧w.grownBy w' (some g):=by
 have eL:∀args w,(callFunc 215 args).run Tryz.prog w=.ok (.enter 215 args) w:=enters_of Tryz.func215 (by kernel_rfl) rfl
 have eS:∀args w,(callFunc 218 args).run Tryz.prog w=.ok (.enter 218 args) w:=enters_of Tryz.func218 (by kernel_rfl) rfl
 go_enter Tryz.func180,Tryz.ntmps180
 go_wp2
 go_loopw [7] (fun iv wr=> ∃(q:Nat) (lq:List Sc),iv=.int .i64 q∧q≤n∧lq.length=l.length∧Brd k g c wr lq∧Q5A lq n q∧Same l lq n∧okD lq∧w.grownBy wr (some g))
  (fun iv _=> n - (intOf iv).toNat)
 case atStart=> exact ⟨0,l,rfl,Kcq _,rfl,hb,hinv,Same.refl _ _,hok,World.grownBy.refl _ _⟩
 case round=>
  obtain ⟨q,lq,rfl,hq,hlq,hbq,hiq,hsq,hoq,hgq⟩:=hrel;have hcell:=hbq.cell;have HLQ:=Q02 hlq;have HB:=Q02 hbq;have HG:=Q02 hgq
  have mL:=fun m=> Q0N Q4R (hbq.drewN m).cell
  have mL0:=Q0N Q4R hcell
  have mL2:=fun m m'=> Q0N Q4R ((hbq.drewN m).drewN m').cell
  have mS:=fun m=> Q0N Q53 (hbq.drewN m).cell
  have mS0:=Q0N Q53 hcell
  have mS2:=fun m m'=> Q0N Q53 ((hbq.drewN m).drewN m').cell
  obtain ⟨j1,hj1⟩:∃j1:Nat,j1=2 * q+1:=⟨_,rfl⟩;obtain ⟨j2,hj2⟩:∃j2:Nat,j2=j1+1:=⟨_,rfl⟩
  have e1:2 * (q:Int)+1=(j1:Int):=by omega
  have e2:(j1:Int)+1=(j2:Int):=by omega
  have hfr:True:=trivial;clear hgq hbq hcell
  by_cases hA:j1 < n
  ·have hA':¬(n:Int)≤(j1:Int):=by omega
   have hA2:¬(j1:Int) < 0:=by omega
   by_cases hB2:j2 < n
   ·have hJ:=fun W (hW:Brd k g c W lq)=> Q3o (some ⟨g,0,none⟩) c lq j2 j1 W W.heap.size hW.row.rd (by omega) (by omega) (by omega)
    by_cases hl2:fr lq j2 < fr lq j1
    ·rw [Q1D (hoq j2 (by omega)) (hoq j1 (by omega)),decide_eq_true hl2] at hJ
     have HJ:=Q02 hJ;clear hJ
     have hbest:∀x,1≤x→x < n→(x - 1) / 2=q→fr lq j2≤fr lq x:=fun x h1 h2 h3=> by rcases (show x=j1∨x=j2 by omega) with e|e <;> subst e <;> omega
     have hQ:=fun W (hW:Brd k g c W lq)=> Q3o (some ⟨g,0,none⟩) c lq j2 q W W.heap.size hW.row.rd (by omega) (by omega) (by omega)
     by_cases hlt:fr lq j2 < fr lq q
     ·rw [Q1D (hoq j2 (by omega)) (hoq q (by omega)),decide_eq_true hlt] at hQ
      have HQ:=Q02 hQ
      have HS:=Q02 (fun W (hW:Brd k g c W lq)=> Q3t (k+1) g c lq q j2 W hW.row (by omega) (by omega) (by omega))
      have HU:=Q02 (Q70 hiq (by omega) (by omega) (by omega) (by omega) hlt hbest)
      have HM:=Q02 (Same.trans hsq (Q48 (l:=lq) q j2 n (by omega) (by omega) (by omega)))
      have HO:=Q02 (Q4V q j2 (by omega) (by omega) hoq)
      clear hQ hiq hsq hoq hlt hbest hlq hfr hj1 hj2
      go_wp2_with (first|(go_at_call_of 215 (Value.int .i64 (q:Int));refine (HQ.out _ (by first|exact HB.out|exact HB.out.drewN _)).mono ?_;rintro e w2 ⟨rfl,m2,rfl⟩)|(go_at_call 215;refine (HJ.out _ (by first|exact HB.out|exact HB.out.drewN _)).mono ?_;rintro e w1 ⟨rfl,m1,rfl⟩)|(go_at_call 218;refine (HS.out _ (by first|exact HB.out|exact HB.out.drewN _|exact (HB.out.drewN _).drewN _)).mono ?_;rintro e w3 ⟨rfl,ho3,hg3⟩;clear mL mL0 mS mS0 mS2 mL2))
      go_roundw
      case rel=> exact ⟨j2,Q2n lq q j2,rfl,by omega,by rw [Q0R];exact HLQ.out,Brd.swap (HB.out.drewN _) ho3 hg3,HU.out,HM.out,HO.out,Q1r HG.out (Q1r (Q2Z wr _ _) hg3)⟩
      case measure=> simp [intOf];omega
     ·rw [Q1D (hoq j2 (by omega)) (hoq q (by omega)),decide_eq_false hlt] at hQ
      have HQ:=Q02 hQ
      have HF:=Q02 (Q5h hiq (fun x h1 h2 h3=> by have:=hbest x h1 h2 h3;omega))
      clear hQ hiq hlt hbest hlq hfr hj1 hj2
      go_wp2_with (first|(go_at_call_of 215 (Value.int .i64 (q:Int));refine (HQ.out _ (by first|exact HB.out|exact HB.out.drewN _)).mono ?_;rintro e w2 ⟨rfl,m2,rfl⟩)|(go_at_call 215;refine (HJ.out _ (by first|exact HB.out|exact HB.out.drewN _)).mono ?_;rintro e w1 ⟨rfl,m1,rfl⟩))
      go_ret
      exact ⟨⟨_,rfl⟩,lq,HB.out.drewN _,HF.out,hsq,hoq,Q1r HG.out (Q2Z wr _ _)⟩
    ·rw [Q1D (hoq j2 (by omega)) (hoq j1 (by omega)),decide_eq_false hl2] at hJ
     have HJ:=Q02 hJ;clear hJ
     have hbest:∀x,1≤x→x < n→(x - 1) / 2=q→fr lq j1≤fr lq x:=fun x h1 h2 h3=> by rcases (show x=j1∨x=j2 by omega) with e|e <;> subst e <;> omega
     have hQ:=fun W (hW:Brd k g c W lq)=> Q3o (some ⟨g,0,none⟩) c lq j1 q W W.heap.size hW.row.rd (by omega) (by omega) (by omega)
     by_cases hlt:fr lq j1 < fr lq q
     ·rw [Q1D (hoq j1 (by omega)) (hoq q (by omega)),decide_eq_true hlt] at hQ
      have HQ:=Q02 hQ
      have HS:=Q02 (fun W (hW:Brd k g c W lq)=> Q3t (k+1) g c lq q j1 W hW.row (by omega) (by omega) (by omega))
      have HU:=Q02 (Q70 hiq (by omega) (by omega) (by omega) (by omega) hlt hbest)
      have HM:=Q02 (Same.trans hsq (Q48 (l:=lq) q j1 n (by omega) (by omega) (by omega)))
      have HO:=Q02 (Q4V q j1 (by omega) (by omega) hoq)
      clear hQ hiq hsq hoq hlt hbest hlq hfr hj1 hj2
      go_wp2_with (first|(go_at_call_of 215 (Value.int .i64 (q:Int));refine (HQ.out _ (by first|exact HB.out|exact HB.out.drewN _)).mono ?_;rintro e w2 ⟨rfl,m2,rfl⟩)|(go_at_call 215;refine (HJ.out _ (by first|exact HB.out|exact HB.out.drewN _)).mono ?_;rintro e w1 ⟨rfl,m1,rfl⟩)|(go_at_call 218;refine (HS.out _ (by first|exact HB.out|exact HB.out.drewN _|exact (HB.out.drewN _).drewN _)).mono ?_;rintro e w3 ⟨rfl,ho3,hg3⟩;clear mL mL0 mS mS0 mS2 mL2))
      go_roundw
      case rel=> exact ⟨j1,Q2n lq q j1,rfl,by omega,by rw [Q0R];exact HLQ.out,Brd.swap (HB.out.drewN _) ho3 hg3,HU.out,HM.out,HO.out,Q1r HG.out (Q1r (Q2Z wr _ _) hg3)⟩
      case measure=> simp [intOf];omega
     ·rw [Q1D (hoq j1 (by omega)) (hoq q (by omega)),decide_eq_false hlt] at hQ
      have HQ:=Q02 hQ
      have HF:=Q02 (Q5h hiq (fun x h1 h2 h3=> by have:=hbest x h1 h2 h3;omega))
      clear hQ hiq hlt hbest hlq hfr hj1 hj2
      go_wp2_with (first|(go_at_call_of 215 (Value.int .i64 (q:Int));refine (HQ.out _ (by first|exact HB.out|exact HB.out.drewN _)).mono ?_;rintro e w2 ⟨rfl,m2,rfl⟩)|(go_at_call 215;refine (HJ.out _ (by first|exact HB.out|exact HB.out.drewN _)).mono ?_;rintro e w1 ⟨rfl,m1,rfl⟩))
      go_ret
      exact ⟨⟨_,rfl⟩,lq,HB.out.drewN _,HF.out,hsq,hoq,Q1r HG.out (Q2Z wr _ _)⟩
   ·have hB2':¬(j2:Int) < (n:Int):=by omega
    have hbest:∀x,1≤x→x < n→(x - 1) / 2=q→fr lq j1≤fr lq x:=fun x h1 h2 h3=> by rcases (show x=j1 by omega) with rfl;omega
    have hQ:=fun W (hW:Brd k g c W lq)=> Q3o (some ⟨g,0,none⟩) c lq j1 q W W.heap.size hW.row.rd (by omega) (by omega) (by omega)
    by_cases hlt:fr lq j1 < fr lq q
    ·rw [Q1D (hoq j1 (by omega)) (hoq q (by omega)),decide_eq_true hlt] at hQ
     have HQ:=Q02 hQ
     have HS:=Q02 (fun W (hW:Brd k g c W lq)=> Q3t (k+1) g c lq q j1 W hW.row (by omega) (by omega) (by omega))
     have HU:=Q02 (Q70 hiq (by omega) (by omega) (by omega) (by omega) hlt hbest)
     have HM:=Q02 (Same.trans hsq (Q48 (l:=lq) q j1 n (by omega) (by omega) (by omega)))
     have HO:=Q02 (Q4V q j1 (by omega) (by omega) hoq)
     clear hQ hiq hsq hoq hlt hbest hlq hfr hj1 hj2
     go_wp2_with (first|(go_at_call_of 215 (Value.int .i64 (q:Int));refine (HQ.out _ (by first|exact HB.out|exact HB.out.drewN _)).mono ?_;rintro e w2 ⟨rfl,m2,rfl⟩)|(go_at_call 218;refine (HS.out _ (by first|exact HB.out|exact HB.out.drewN _|exact (HB.out.drewN _).drewN _)).mono ?_;rintro e w3 ⟨rfl,ho3,hg3⟩;clear mL mL0 mS mS0 mS2 mL2))
     go_roundw
     case rel=> exact ⟨j1,Q2n lq q j1,rfl,by omega,by rw [Q0R];exact HLQ.out,Brd.swap (HB.out.drewN m2) ho3 hg3,HU.out,HM.out,HO.out,Q1r HG.out (Q1r (Q2Z wr _ _) hg3)⟩
     case measure=> simp [intOf];omega
    ·rw [Q1D (hoq j1 (by omega)) (hoq q (by omega)),decide_eq_false hlt] at hQ
     have HQ:=Q02 hQ
     have HF:=Q02 (Q5h hiq (fun x h1 h2 h3=> by have:=hbest x h1 h2 h3;omega))
     clear hQ hiq hlt hbest hlq hfr hj1 hj2
     go_wp2_with (first|(go_at_call_of 215 (Value.int .i64 (q:Int));refine (HQ.out _ (by first|exact HB.out|exact HB.out.drewN _)).mono ?_;rintro e w2 ⟨rfl,m2,rfl⟩))
     go_ret
     exact ⟨⟨_,rfl⟩,lq,HB.out.drewN m2,HF.out,hsq,hoq,Q1r HG.out (Q2Z wr _ _)⟩
  ·have hA':(n:Int)≤(j1:Int):=by omega
   have HF:=Q02 (Q5h hiq (fun x h1 h2 h3=> by omega))
   clear hiq hlq hfr hj1 hj2
   go_wp2
   go_ret
   exact ⟨⟨_,rfl⟩,lq,HB.out,HF.out,hsq,hoq,HG.out⟩
end Go.Proofs.YtpneolgdghbinaaGreat
