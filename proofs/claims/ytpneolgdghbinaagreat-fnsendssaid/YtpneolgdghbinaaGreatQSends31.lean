/- Hint, on both sides. -/
import Derived.Test.YtpneolgdghbinaaGreatQSends29
import Derived.Test.YtpneolgdghbinaaGreatQSends30
namespace Go.Proofs.YtpneolgdghbinaaGreat
open Go.ChangeShapes Go.WideShapes Go.ChangeAt Go.RowKit Go.Joins
set_option linter.unusedVariables false
set_option linter.unusedSimpArgs false
set_option maxRecDepth 100000
set_option maxHeartbeats 40000000
def QeE (l:List Sl) (a p:Int):Int:=if (Q1o l a p).2=true then (Q8m l a p).v else -1
theorem Q29 {m:Bm} (h:Q2i m=true):Q0l m.t=true:=by
 rw [Qd4] at h
 simp only [Bool.and_eq_true] at h
 exact h.2.1
theorem Q4d {m:Bm} (h:Q2i m=true):0 < m.t.length:=(Q0i.1 (Q29 h)).1
theorem Qfy {C:Nat} {w:World} {o:Option Addr} {l:List Sl} (h:RdS C w o l) (hn:0 < l.length):∃b off,o=some ⟨b,off,none⟩∧b < C∧∀i,i < l.length→∀j,j < Q0h.k→w.cell? ⟨b,off+i * Q0h.k+j,none⟩=(Q0h.cs (l.getD i Q0h.d))[j]? :=by
 rcases h with h|⟨b,off,e,hb,r⟩
 ·subst h;simp at hn
 ·exact ⟨b,off,e,hb,r⟩
theorem Q6Y {lo hi:Nat} {w:World} {xo:Option Addr} {xn xc:Nat} {kq:Int} {yo:Option Addr} {yn yc:Nat} {sq kr:Int} {uo:Option Addr} {un uc:Nat} {vo:Option Addr} {vn vc:Nat} {j:Jm} {p:Pm} {t:List Sl} (h:QhK lo hi w (QaU (.slice xo xn xc) kq (.slice yo yn yc) sq kr (.slice uo un uc) (.slice vo vn vc)) j p t) (ht:0 < t.length):
  ∃g a b,lo≤a∧a≤g∧g < b∧b≤hi∧kq=j.key∧sq=j.safe∧kr=p.key∧xo=some ⟨g,0,none⟩∧xn=t.length∧InPm lo a w (plv p.key (.slice uo un uc) (.slice vo vn vc)) p∧w.ownsRow a Q4l 5 (.slice (some ⟨g,0,none⟩) t.length xc) t.length (t.flatMap Q0h.cs)∧InJm b hi w (jrn j.key (.slice yo yn yc) j.safe) j:=by
 obtain ⟨vt,vl,vb,vr,a,b,e,k1,k2,k3,i1,i2,i3⟩:=h
 simp only [Value.agg.injEq,Array.mk.injEq,List.cons.injEq,and_true,Value.int.injEq,true_and] at e
 obtain ⟨e1,e2,e3,e4,e5,e6,e7⟩:=e;subst e1 e3 e6 e7;have i2':=i2
 rcases i2'.1.2 with ⟨h1,h2⟩|⟨g,cap,cur,hv,hg,r⟩
 ·exact absurd h2 (by omega)
 ·injection hv with h4 h5 h6
  subst h4 h5 h6
  exact ⟨g,a,b,k1,hg,i2.2 g rfl,k3,e2,e4,e5,rfl,rfl,i1,i2.1,i3⟩
theorem Qcx (b off c:Nat) (l:List Sl) (a p:Int) (w:World) (hn:0 < l.length) (hl:l.length≤1048576) (hf:Q0f a p=true) (hbl:b < w.heap.size) (hc:∀i,i < l.length→∀j,j < Q0h.k→w.cell? ⟨b,off+i * Q0h.k+j,none⟩=(Q0h.cs (l.getD i Q0h.d))[j]?):
  Calls Tryz.prog 54 #[tab (.slice (some ⟨b,off,none⟩) l.length c),Q9T a p] w fun e w'=> e=.returned (.int .i64 (QeE l a p))∧Below w.heap.size w w':=by
 have HC:=Q02 hc;clear hc;obtain ⟨W0,hW0⟩:∃W,((w.alloc (.cells #[.slice (some ⟨b,off,none⟩) l.length c] 91)).alloc (.cells #[.int .i64 a,.int .i64 p] 36))=W:=⟨_,rfl⟩
 have hb_W0:Below w.heap.size w W0:=by rw [←hW0];exact (((Below.refl _ _).alloc (Kaq _) _).alloc (by simp <;> omega) _)
 have HB:=Q02 hb_W0;clear hb_W0
 have zct:w.heap.size < W0.heap.size:=by rw [←hW0];simp <;> omega
 have ct0:W0.cell? ⟨w.heap.size,0,none⟩=some (.slice (some ⟨b,off,none⟩) l.length c):=by rw [←hW0];simp [go_sem]
 have zcf:w.heap.size+1 < W0.heap.size:=by rw [←hW0];simp
 obtain ⟨cf0,cf1⟩:=alc2v1v2 hW0
 have hg:=Qgg b off c l a p W0 hn hl hf (Kbq hbl HB.out.size) (fun i hi j hj=> (HB.out.cell (p:=⟨b,off+i * Q0h.k+j,none⟩) hbl).trans (HC.out i hi j hj))
 obtain ⟨r,hr⟩:∃r,QeE l a p=r:=⟨_,rfl⟩
 rw [hr]
 obtain ⟨q,hq⟩:∃q,Q8m l a p=q:=⟨_,rfl⟩;obtain ⟨f,hff⟩:∃f,(Q1o l a p).2=f:=⟨_,rfl⟩
 rw [hq,hff] at hg
 have HV:Hid (r=if f=true then q.v else -1):=by unfold Hid;rw [←hr,←hq,←hff];rfl
 clear hq hff hr
 go_enter Tryz.func54,Tryz.ntmps54
 go_wp2_with fail
 refine (hg).mono ?_
 rintro e v1 ⟨rfl,hb⟩
 replace ct0:=bC hb ct0 zct;replace zct:=Kbq zct hb.size;replace cf0:=bC hb cf0 zcf;replace cf1:=bC hb cf1 zcf;replace zcf:=Kbq zcf hb.size;replace HB:=Q02 (HB.out.trans (hb.mono HB.out.size));clear hb;clear hg;obtain ⟨W2,hW2⟩:∃W,(v1.alloc (.cells #[.bool q.u,.int .i64 q.a,.int .i64 q.p,.int .i64 q.v,.int .i64 q.t] 165))=W:=⟨_,rfl⟩
 have hb_W2:Below v1.heap.size v1 W2:=by rw [←hW2];exact ((Below.refl _ _).alloc (Kaq _) _)
 replace ct0:=bC hb_W2 ct0 zct;replace zct:=Kbq zct hb_W2.size;replace cf0:=bC hb_W2 cf0 zcf;replace cf1:=bC hb_W2 cf1 zcf;replace zcf:=Kbq zcf hb_W2.size;replace HB:=Q02 (HB.out.trans (hb_W2.mono HB.out.size));clear hb_W2
 have zcq:v1.heap.size < W2.heap.size:=by rw [←hW2];simp
 obtain ⟨cq0,cq1,cq2,cq3,cq4⟩:=alc5v0v1 hW2
 cases f with
 |false=>
  go_wp2
  go_ret
  exact ⟨Q0J (by rw [HV.out];rfl),HB.out⟩
 |true=>
  go_wp2
  go_ret
  exact ⟨Q0J (by rw [HV.out];rfl),HB.out⟩
end Go.Proofs.YtpneolgdghbinaaGreat
