/- The program's map of ranks. -/
import Derived.MapViews
import Derived.DeepKeys4
import Derived.Test.YtpneolgdghbinaaGreatQSends50
namespace Go.Proofs.YtpneolgdghbinaaGreat
open Go.ChangeShapes Go.WideShapes Go.ChangeAt Go.RowKit Go.Joins Go.Maps
set_option linter.unusedVariables false
set_option linter.unusedSimpArgs false
set_option maxRecDepth 100000
set_option maxRecDepth 100000
set_option maxHeartbeats 40000000
theorem Qf3:Tryz.prog.keyTypeAt (Tryz.prog.types.size+1) 36=true:=by kernel_rfl
theorem Qbp:(match Tryz.prog.underlying 36 with|some (.array _ _)|some (.struct _)=> true|_=> false)=true:=by kernel_rfl
theorem Q3p:Keyed Tryz.prog 36:=Keyed.of_law (deep_law_laid Qdy (m:=3) (by omega) (of_decide_eq_true (by kernel_rfl)) (by kernel_rfl) Qbp)
theorem Q83:Tryz.prog.cellsOf 36=2:=by kernel_rfl
theorem Qcn (x y:Value):(Value.agg #[x,y]).formed Tryz.prog 36=true:=by kernel_rfl
theorem QeG {n:Int} (h0:0≤n) (h1:n < 9223372036854775808):(Lit.int .i64 n).wf=true:=by
 simp [Lit.wf,IntKind.min,IntKind.max,IntKind.signed,IntKind.bits];omega
theorem Qet (a b:Int) (h:Q0f a b=true):∃kl:Lit,keyOf Tryz.prog 36 (.agg #[.int .i64 a,.int .i64 b])=some kl:=by
 have q:=Q0Y.1 h
 have t:DataW.Trod (fun _=> ()) Tryz.prog (default:World) 0 (fun _=> true) true 36 (.agg #[.int .i64 a,.int .i64 b]) (.agg [.lit (.int .i64 a),.lit (.int .i64 b)]) []:=
  shut_agg2 (y0:=(.lit (.int .i64 a),[])) (y1:=(.lit (.int .i64 b),[])) Tryz.underlying36 (by kernel_rfl) Q83 ⟨1,by simp [DataW.trod,Tryz.underlying3,QeG q.1 (by omega)]⟩ ⟨1,by simp [DataW.trod,Tryz.underlying3,QeG q.2.2.1 (by omega)]⟩
 exact ⟨_,(keyOf_asKey Qf3 Qbp (Qcn _ _) t).1⟩
def Qg0 (k1 k2:Lit) (r1 r2:Int):Nat→DataW Unit
 |0=> .map []
 |1=> (DataW.map []).put k1 (.lit (.int .i64 r1))
 |_=> ((DataW.map []).put k1 (.lit (.int .i64 r1))).put k2 (.lit (.int .i64 r2))
theorem Q87 (g:Nat) (a b c d:Int) (k1 k2:Lit) (w:World) (hg:g < w.heap.size) (h0:w.cell? ⟨g,0,none⟩=some (.int .i64 a)) (h1:w.cell? ⟨g,1,none⟩=some (.int .i64 b)) (h2:w.cell? ⟨g,2,none⟩=some (.int .i64 c)) (h3:w.cell? ⟨g,3,none⟩=some (.int .i64 d))
  (q1:Q0f a b=true) (q2:Q0f c d=true) (hk1:keyOf Tryz.prog 36 (.agg #[.int .i64 a,.int .i64 b])=some k1) (hk2:keyOf Tryz.prog 36 (.agg #[.int .i64 c,.int .i64 d])=some k2):
  Calls Tryz.prog 59 #[.slice (some ⟨g,0,none⟩) 2 2] w fun e w'=> e=.returned (.map (some w.heap.size))∧w'.ownsMap Tryz.prog 36 (plainElem Tryz.prog 3) w.heap.size 2 (Qg0 k1 k2 (a * 65536+b) (c * 65536+d) 2)∧Below w.heap.size w w':=by
 have hmm:∀w,(Instr.makeMap 113 (some (.int .i64 2))).run Tryz.prog w=.ok (.map (some w.heap.size)) (w.alloc (.map #[] 0)):=fun _=> by kernel_rfl
 have r1:=Q0Y.1 q1;have r2:=Q0Y.1 q2;have HK1:=Q02 hk1;have HK2:=Q02 hk2
 have w1:(Lit.int .i64 (a * 65536+b)).wf=true:=QeG (by omega) (by omega)
 have w2:(Lit.int .i64 (c * 65536+d)).wf=true:=QeG (by omega) (by omega)
 have W1:=Q02 w1;have W2:=Q02 w2;clear hk1 hk2 w1 w2 q1 q2
 go_enter Tryz.func59,Tryz.ntmps59
 go_wp2
 go_loopw [11] (fun i wr=> ∃k:Nat,k≤2∧i=.int .i64 k∧wr.ownsMap Tryz.prog 36 (plainElem Tryz.prog 3) w.heap.size k (Qg0 k1 k2 (a * 65536+b) (c * 65536+d) k)∧Below w.heap.size w wr∧w.heap.size < wr.heap.size)
  (fun i _=> 2 - (intOf i).toNat)
 case atStart=> exact ⟨0,by omega,rfl,World.ownsMap_made _ _ _ _,(Below.refl _ _).alloc (Kaq _) _,by simp⟩
 case round=>
  obtain ⟨k,hk,rfl,hown,hBr,hsz⟩:=hrel;have d0:=(hBr.cell (p:=⟨g,0,none⟩) hg).trans h0;have d1:=(hBr.cell (p:=⟨g,1,none⟩) hg).trans h1;have d2:=(hBr.cell (p:=⟨g,2,none⟩) hg).trans h2;have d3:=(hBr.cell (p:=⟨g,3,none⟩) hg).trans h3
  have ek:k=0∨k=1∨k=2:=by omega
  rcases ek with ek|ek|ek
  ·subst ek
   have H:=Q02 hown;clear hown
   go_wp2_with (first|(at_mapUpdate;refine wpList_mapUpdate_own _ rfl _ _ _ 113 rfl 36 3 Q3p Tryz.underlying113 _ w.heap.size 0 _ rfl (H.out.alloc _) (by unfold maxLen;omega) _ _ k1 rfl rfl HK1.out _ [] (plainElem_int Tryz.underlying3 W1.out) ?_;intro w1 hown1 hgrow1))
   go_roundw
   case rel=> exact ⟨1,by omega,rfl,hown1,(hBr.alloc (Nat.le_of_lt hsz) _).grown hgrow1 (by simp;omega) (fun k h=> by cases h;exact Kaq _),by have:=hgrow1.size;simp at this;omega⟩
   case measure=> simp [intOf]
  ·subst ek
   have H:=Q02 hown;clear hown
   go_wp2_with (first|(at_mapUpdate;refine wpList_mapUpdate_own _ rfl _ _ _ 113 rfl 36 3 Q3p Tryz.underlying113 _ w.heap.size 1 _ rfl (H.out.alloc _) (by unfold maxLen;omega) _ _ k2 rfl rfl HK2.out _ [] (plainElem_int Tryz.underlying3 W2.out) ?_;intro w1 hown1 hgrow1))
   go_roundw
   case rel=> exact ⟨2,by omega,rfl,hown1,(hBr.alloc (Nat.le_of_lt hsz) _).grown hgrow1 (by simp;omega) (fun k h=> by cases h;exact Kaq _),by have:=hgrow1.size;simp at this;omega⟩
   case measure=> simp [intOf]
  ·subst ek
   have H:=Q02 hown;clear hown
   go_wp2
   go_ret
   exact ⟨rfl,H.out,hBr⟩
theorem QgT (k1 k2:Lit) (r1 r2:Int) (hk1:WideAt.IsKeyLit k1) (hk2:WideAt.IsKeyLit k2) (h:k1=k2→r1=r2):
  (Qg0 k1 k2 r1 r2 2).atKey k1 (.lit (.int .i64 0))=.lit (.int .i64 r1)∧(Qg0 k1 k2 r1 r2 2).atKey k2 (.lit (.int .i64 0))=.lit (.int .i64 r2):=by
 have hm:IsMap ((DataW.map []).put k1 (.lit (.int .i64 r1)):DataW Unit):=⟨_,rfl⟩
 refine ⟨?_,atKey_put_same hm hk2 _ _⟩
 show (((DataW.map []).put k1 (.lit (.int .i64 r1))).put k2 (.lit (.int .i64 r2))).atKey k1 _=_
 by_cases e:k1=k2
 ·rw [h e]
  subst e
  exact atKey_put_same ⟨_,rfl⟩ hk2 _ _
 ·exact (atKey_put_other e _ _).trans (atKey_put_same ⟨_,rfl⟩ hk1 _ _)
theorem Qgx (w:World):(zeroValue 3).run Tryz.prog w=.ok (.int .i64 0) w:=by kernel_rfl
theorem Qds {w:World} {m:Nat} {D:DataW Unit} {key:Value} {kl:Lit} {r:Int} (hown:w.ownsMap Tryz.prog 36 (plainElem Tryz.prog 3) m 2 D) (hk:keyOf Tryz.prog 36 key=some kl) (hr:D.atKey kl (.lit (.int .i64 0))=.lit (.int .i64 r)):
  (Instr.lookup 113 (.map (some m)) key false).run Tryz.prog w=.ok (.int .i64 r) w:=by
 obtain ⟨c,hrun,hat,_⟩:=hown.lookup_int Q3p Tryz.underlying113 Tryz.underlying3 (Qgx w) hk
 rw [hat] at hr
 simp at hr
 rw [hrun,hr]
theorem Q6J (a b c d:Int) (w:World):Calls Tryz.prog 20 #[.agg #[.int .i64 a,.int .i64 b],.agg #[.int .i64 c,.int .i64 d]] w fun e w'=> e=.returned (.int .i64 (Q28 a b c d))∧Below w.heap.size w w':=by
 have hB:Below w.heap.size w w:=Below.refl _ _
 have k1:=Q02 (fun w=> Q0K a b w)
 have k2:=Q02 (fun w=> Q0K c d w)
 by_cases h1:Q0f a b=true
 ·rw [h1] at k1
  by_cases h2:Q0f c d=true
  ·rw [h2] at k2
   obtain ⟨l1,hl1⟩:=Qet a b h1;obtain ⟨l2,hl2⟩:=Qet c d h2
   have hsame:l1=l2→a * 65536+b=c * 65536+d:=by
    intro e
    subst e;have:=Q3p.inj hl1 hl2
    simp at this
    omega
   have hat:=QgT l1 l2 (a * 65536+b) (c * 65536+d) (Q3p.key hl1) (Q3p.key hl2) hsame;have HAT:=Q02 hat;have H:=Q02 (QeU a b c d h1 h2);have HL1:=Q02 hl1;have HL2:=Q02 hl2;have HQ1:=Q02 h1;have HQ2:=Q02 h2;clear hat hsame hl1 hl2 h1 h2
   go_enter Tryz.func20,Tryz.ntmps20
   go_wp2_with fail;go_at_call 53;refine (k1.out _).mono ?_;rintro e w1a ⟨rfl,hba⟩;obtain ⟨hca,hfa⟩:=Q1z hba;have hz0a:w.heap.size < w1a.heap.size:=(by have hz:=hba.size;(try simp at hz);omega);have hz1a:w.heap.size+1 < w1a.heap.size:=(by have hz:=hba.size;(try simp at hz);omega);have hB:Below w.heap.size w w1a:=(by refine Below.trans ?_ (hba.mono (by have hs:=hB.size;(try simp) <;> omega));(repeat (first|with_reducible (first|exact hB|exact Below.refl _ _|refine Below.drew ?_|refine below_drewN ?_ _|refine Below.alloc ?_ ?_ _|refine Below.setCell ?_ ?_ _)|(focus (simp;first|done|omega))|omega)))
   go_wp2_with fail;go_at_call 53;refine (k2.out _).mono ?_;rintro e w1b ⟨rfl,hbb⟩;obtain ⟨hcb,hfb⟩:=Q1z hbb;have hz0b:w.heap.size < w1b.heap.size:=(by have hz:=hbb.size;(try simp at hz);omega);have hz1b:w.heap.size+1 < w1b.heap.size:=(by have hz:=hbb.size;(try simp at hz);omega);have hB:Below w.heap.size w w1b:=(by refine Below.trans ?_ (hbb.mono (by have hs:=hB.size;(try simp) <;> omega));(repeat (first|with_reducible (first|exact hB|exact Below.refl _ _|refine Below.drew ?_|refine below_drewN ?_ _|refine Below.alloc ?_ ?_ _|refine Below.setCell ?_ ?_ _)|(focus (simp;first|done|omega))|omega)))
   go_wp2_with fail
   have cA:w1b.cell? ⟨w.heap.size,0,none⟩=some (.int .i64 a):=by rw [hcb _ _ hz0a,hca _ _ (by simp;omega)];simp
   have cB:w1b.cell? ⟨w.heap.size,1,none⟩=some (.int .i64 b):=by rw [hcb _ _ hz0a,hca _ _ (by simp;omega)];simp
   have cC:w1b.cell? ⟨w.heap.size+1,0,none⟩=some (.int .i64 c):=by rw [hcb _ _ hz1a,hca _ _ (by simp)];simp
   have cD:w1b.cell? ⟨w.heap.size+1,1,none⟩=some (.int .i64 d):=by rw [hcb _ _ hz1a,hca _ _ (by simp)];simp
   clear hca hfa hcb hfb hba hbb;generalize hwx:w1b.alloc (.cells #[.int .i64 a,.int .i64 b,.int .i64 c,.int .i64 d] 36)=wx at *
   have hbx:Below w1b.heap.size w1b wx:=by rw [←hwx];exact (Below.refl _ _).alloc (Kaq _) _
   have hsx:w1b.heap.size < wx.heap.size:=by rw [←hwx];simp
   have hsx1:wx.heap.size=w1b.heap.size+1:=by rw [←hwx];simp
   have y0:wx.cell? ⟨w1b.heap.size,0,none⟩=some (.int .i64 a):=by rw [←hwx];simp
   have y1:wx.cell? ⟨w1b.heap.size,1,none⟩=some (.int .i64 b):=by rw [←hwx];simp
   have y2:wx.cell? ⟨w1b.heap.size,2,none⟩=some (.int .i64 c):=by rw [←hwx];simp
   have y3:wx.cell? ⟨w1b.heap.size,3,none⟩=some (.int .i64 d):=by rw [←hwx];simp
   clear hwx;have hfr:=Q87 w1b.heap.size a b c d l1 l2 wx hsx y0 y1 y2 y3 HQ1.out HQ2.out HL1.out HL2.out
   rw [hsx1] at hfr
   refine hfr.mono ?_
   rintro e wy ⟨rfl,howny,hby⟩
   have hby':Below w1b.heap.size w1b wy:=hbx.trans (hby.mono (by omega))
   have eA:=(hby'.cell (p:=⟨w.heap.size,0,none⟩) hz0b).trans cA;have eB:=(hby'.cell (p:=⟨w.heap.size,1,none⟩) hz0b).trans cB;have eC:=(hby'.cell (p:=⟨w.heap.size+1,0,none⟩) hz1b).trans cC;have eD:=(hby'.cell (p:=⟨w.heap.size+1,1,none⟩) hz1b).trans cD;have L1:(Instr.lookup 113 (.map (some (w1b.heap.size+1))) (.agg #[.int .i64 a,.int .i64 b]) false).run Tryz.prog wy.drew=.ok (.int .i64 (a * 65536+b)) wy.drew:=Qds howny.drew HL1.out HAT.out.1
   have L2:(Instr.lookup 113 (.map (some (w1b.heap.size+1))) (.agg #[.int .i64 c,.int .i64 d]) false).run Tryz.prog wy.drew=.ok (.int .i64 (c * 65536+d)) wy.drew:=Qds howny.drew HL2.out HAT.out.2;have hBy:Below w.heap.size w wy:=hB.trans (hby'.mono (Nat.le_of_lt hz0b));clear howny hby hby' cA cB cC cD y0 y1 y2 y3 hbx hfr
   go_wp2_with fail
   go_region_held3 (fun w'=> w'.cell? ⟨w.heap.size,0,none⟩=some (.int .i64 a)∧w'.cell? ⟨w.heap.size,1,none⟩=some (.int .i64 b)∧w'.cell? ⟨w.heap.size+1,0,none⟩=some (.int .i64 c)∧w'.cell? ⟨w.heap.size+1,1,none⟩=some (.int .i64 d)∧(Instr.lookup 113 (.map (some (w1b.heap.size+1))) (.agg #[.int .i64 a,.int .i64 b]) false).run Tryz.prog w'=.ok (.int .i64 (a * 65536+b)) w'∧(Instr.lookup 113 (.map (some (w1b.heap.size+1))) (.agg #[.int .i64 c,.int .i64 d]) false).run Tryz.prog w'=.ok (.int .i64 (c * 65536+d)) w') (first|exact ⟨eA,eB,eC,eD,L1,L2⟩) (first|(go_at_call 60;refine (QaB _ _ _).mono ?_;rintro e wz ⟨rfl,rfl⟩))
   all_goals go_wp2
   all_goals go_ret
   all_goals exact ⟨Q0J H.out,Below.drew hBy⟩
  ·have h2':=Bool.eq_false_iff.2 h2
   rw [h2'] at k2
   have H:=Q02 (Qa5 (a:=a) (b:=b) h2')
   go_enter Tryz.func20,Tryz.ntmps20
   go_wp2_with fail;go_at_call 53;refine (k1.out _).mono ?_;rintro e w1a ⟨rfl,hba⟩;obtain ⟨hca,hfa⟩:=Q1z hba;have hz0a:w.heap.size < w1a.heap.size:=(by have hz:=hba.size;(try simp at hz);omega);have hz1a:w.heap.size+1 < w1a.heap.size:=(by have hz:=hba.size;(try simp at hz);omega);have hB:Below w.heap.size w w1a:=(by refine Below.trans ?_ (hba.mono (by have hs:=hB.size;(try simp) <;> omega));(repeat (first|with_reducible (first|exact hB|exact Below.refl _ _|refine Below.drew ?_|refine below_drewN ?_ _|refine Below.alloc ?_ ?_ _|refine Below.setCell ?_ ?_ _)|(focus (simp;first|done|omega))|omega)))
   go_wp2_with fail;go_at_call 53;refine (k2.out _).mono ?_;rintro e w1b ⟨rfl,hbb⟩;obtain ⟨hcb,hfb⟩:=Q1z hbb;have hz0b:w.heap.size < w1b.heap.size:=(by have hz:=hbb.size;(try simp at hz);omega);have hz1b:w.heap.size+1 < w1b.heap.size:=(by have hz:=hbb.size;(try simp at hz);omega);have hB:Below w.heap.size w w1b:=(by refine Below.trans ?_ (hbb.mono (by have hs:=hB.size;(try simp) <;> omega));(repeat (first|with_reducible (first|exact hB|exact Below.refl _ _|refine Below.drew ?_|refine below_drewN ?_ _|refine Below.alloc ?_ ?_ _|refine Below.setCell ?_ ?_ _)|(focus (simp;first|done|omega))|omega)))
   go_wp2
   go_ret
   exact ⟨Q0J H.out,by (repeat (first|with_reducible (first|exact hB|exact Below.refl _ _|refine Below.drew ?_|refine below_drewN ?_ _|refine Below.alloc ?_ ?_ _|refine Below.setCell ?_ ?_ _)|(focus (simp;first|done|omega))|omega))⟩
 ·have h1':=Bool.eq_false_iff.2 h1
  rw [h1'] at k1
  have H:=Q02 (Q9W (c:=c) (d:=d) h1')
  go_enter Tryz.func20,Tryz.ntmps20
  go_wp2_with fail;go_at_call 53;refine (k1.out _).mono ?_;rintro e w1a ⟨rfl,hba⟩;obtain ⟨hca,hfa⟩:=Q1z hba;have hz0a:w.heap.size < w1a.heap.size:=(by have hz:=hba.size;(try simp at hz);omega);have hz1a:w.heap.size+1 < w1a.heap.size:=(by have hz:=hba.size;(try simp at hz);omega);have hB:Below w.heap.size w w1a:=(by refine Below.trans ?_ (hba.mono (by have hs:=hB.size;(try simp) <;> omega));(repeat (first|with_reducible (first|exact hB|exact Below.refl _ _|refine Below.drew ?_|refine below_drewN ?_ _|refine Below.alloc ?_ ?_ _|refine Below.setCell ?_ ?_ _)|(focus (simp;first|done|omega))|omega)))
  go_wp2
  go_ret
  exact ⟨Q0J H.out,by (repeat (first|with_reducible (first|exact hB|exact Below.refl _ _|refine Below.drew ?_|refine below_drewN ?_ _|refine Below.alloc ?_ ?_ _|refine Below.setCell ?_ ?_ _)|(focus (simp;first|done|omega))|omega))⟩
end Go.Proofs.YtpneolgdghbinaaGreat
