/- MailOk, the model's and the program's. -/
import Derived.Test.YtgplppfbinfelaaGreatQOldest25
import Derived.Test.YtgplppfbinfelaaGreatQOldest14
namespace Go.Proofs.YtgplppfbinfelaaGreat
open Go.ChangeShapes Go.WideShapes Go.ChangeAt Go.RowKit Go.Joins
set_option linter.unusedVariables false
set_option linter.unusedSimpArgs false
set_option maxRecDepth 100000
set_option maxHeartbeats 40000000
abbrev mlv (k a b f s:Int) (vl vg:Value) (pl st fa fp bk:Int):Value:=.agg #[.int .i64 k,.int .i64 a,.int .i64 b,.int .i64 f,.int .i64 s,vl,vg,.int .i64 pl,.int .i64 st,.int .i64 fa,.int .i64 fp,.int .i64 bk]
def noCarB (a b f s:Int) (len gl:Nat) (pl st:Int):Bool:=decide (a=0) && decide (b=0) && decide (f=0) && decide (s=0) && decide (len=0) && decide (gl=0) && decide (pl=0) && decide (st=0)
def mailB (k a b f s:Int) (len:Nat) (g:List (Int × Int)) (pl st fa fp bk:Int):Bool:=(decide (k=0) && carrierOkB a b f s len g pl st && decide (fa=0) && decide (fp=0) && decide (bk=0))||(decide (k=1) && flowOkB fa fp && decide (0≤bk) && decide (bk < 6) && noCarB a b f s len g.length pl st)
theorem noCarB_iff {a b f s:Int} {len gl:Nat} {pl st:Int}:noCarB a b f s len gl pl st=true↔a=0∧b=0∧f=0∧s=0∧len=0∧gl=0∧pl=0∧st=0:=by simp [noCarB,and_assoc]
theorem mail_zero {a b f s:Int} {len:Nat} {g:List (Int × Int)} {pl st fa fp bk:Int}:mailB 0 a b f s len g pl st fa fp bk=(carrierOkB a b f s len g pl st && decide (fa=0) && decide (fp=0) && decide (bk=0)):=by simp [mailB]
theorem mail_one {a b f s:Int} {len:Nat} {g:List (Int × Int)} {pl st fa fp bk:Int}:mailB 1 a b f s len g pl st fa fp bk=(flowOkB fa fp && decide (0≤bk) && decide (bk < 6) && noCarB a b f s len g.length pl st):=by simp [mailB]
theorem mail_else {k a b f s:Int} {len:Nat} {g:List (Int × Int)} {pl st fa fp bk:Int} (h0:k≠0) (h1:k≠1):mailB k a b f s len g pl st fa fp bk=false:=by simp [mailB,h0,h1]
theorem specMailOk_any (k a b f s:Int) (o og:Option Addr) (len cap cg:Nat) (g:List (Int × Int)) (pl st fa fp bk:Int) (w:World) (hl:len≤maxLen) (hgl:g.length≤maxLen) (hG:RdG w og g):
  Calls Tryz.prog 43 #[mlv k a b f s (.slice o len cap) (.slice og g.length cg) pl st fa fp bk] w fun e w'=> e=.returned (.bool (mailB k a b f s len g pl st fa fp bk))∧Below w.heap.size w w':=by
 obtain ⟨gl,hgn⟩:∃n,g.length=n:=⟨_,rfl⟩
 have HGN:=hide hgn
 have HCB:=hide (fun W (hb:Below w.heap.size w W)=> specCarrierOk_any a b f s o og len cap cg g pl st W hl hgl (hG.kept hb))
 rw [hgn] at HCB ⊢
 clear hgn hG hgl
 obtain ⟨W0,hW0⟩:∃W,(w.alloc (.cells #[.int .i64 k,.int .i64 a,.int .i64 b,.int .i64 f,.int .i64 s,.slice o len cap,.slice og gl cg,.int .i64 pl,.int .i64 st,.int .i64 fa,.int .i64 fp,.int .i64 bk] 96))=W:=⟨_,rfl⟩
 have hb_W0:Below w.heap.size w W0:=by rw [←hW0];exact ((Below.refl _ _).alloc (Nat.le_refl _) _)
 have HB:=hide hb_W0
 clear hb_W0
 have zz:w.heap.size < W0.heap.size:=by rw [←hW0];simp
 have z0:W0.cell? ⟨w.heap.size,0,none⟩=some (.int .i64 k):=by rw [←hW0];simp [go_sem]
 have z1:W0.cell? ⟨w.heap.size,1,none⟩=some (.int .i64 a):=by rw [←hW0];simp [go_sem]
 have z2:W0.cell? ⟨w.heap.size,2,none⟩=some (.int .i64 b):=by rw [←hW0];simp [go_sem]
 have z3:W0.cell? ⟨w.heap.size,3,none⟩=some (.int .i64 f):=by rw [←hW0];simp [go_sem]
 have z4:W0.cell? ⟨w.heap.size,4,none⟩=some (.int .i64 s):=by rw [←hW0];simp [go_sem]
 have z5:W0.cell? ⟨w.heap.size,5,none⟩=some (.slice o len cap):=by rw [←hW0];simp [go_sem]
 have z6:W0.cell? ⟨w.heap.size,6,none⟩=some (.slice og gl cg):=by rw [←hW0];simp [go_sem]
 have z7:W0.cell? ⟨w.heap.size,7,none⟩=some (.int .i64 pl):=by rw [←hW0];simp [go_sem]
 have z8:W0.cell? ⟨w.heap.size,8,none⟩=some (.int .i64 st):=by rw [←hW0];simp [go_sem]
 have z9:W0.cell? ⟨w.heap.size,9,none⟩=some (.int .i64 fa):=by rw [←hW0];simp [go_sem]
 have z10:W0.cell? ⟨w.heap.size,10,none⟩=some (.int .i64 fp):=by rw [←hW0];simp [go_sem]
 have z11:W0.cell? ⟨w.heap.size,11,none⟩=some (.int .i64 bk):=by rw [←hW0];simp [go_sem]
 by_cases h0:k=0
 ·subst h0
  have HX:=hide (HCB.out W0 HB.out)
  go_enter Tryz.func43,Tryz.ntmps43
  go_wp2_with fail
  refine (HX.out).mono ?_
  rintro e v1 ⟨rfl,hb⟩
  replace z0:v1.cell? ⟨w.heap.size,0,none⟩=some (.int .i64 0):=(hb.cell (p:=⟨w.heap.size,0,none⟩) zz).trans z0
  replace z1:v1.cell? ⟨w.heap.size,1,none⟩=some (.int .i64 a):=(hb.cell (p:=⟨w.heap.size,1,none⟩) zz).trans z1
  replace z2:v1.cell? ⟨w.heap.size,2,none⟩=some (.int .i64 b):=(hb.cell (p:=⟨w.heap.size,2,none⟩) zz).trans z2
  replace z3:v1.cell? ⟨w.heap.size,3,none⟩=some (.int .i64 f):=(hb.cell (p:=⟨w.heap.size,3,none⟩) zz).trans z3
  replace z4:v1.cell? ⟨w.heap.size,4,none⟩=some (.int .i64 s):=(hb.cell (p:=⟨w.heap.size,4,none⟩) zz).trans z4
  replace z5:v1.cell? ⟨w.heap.size,5,none⟩=some (.slice o len cap):=(hb.cell (p:=⟨w.heap.size,5,none⟩) zz).trans z5
  replace z6:v1.cell? ⟨w.heap.size,6,none⟩=some (.slice og gl cg):=(hb.cell (p:=⟨w.heap.size,6,none⟩) zz).trans z6
  replace z7:v1.cell? ⟨w.heap.size,7,none⟩=some (.int .i64 pl):=(hb.cell (p:=⟨w.heap.size,7,none⟩) zz).trans z7
  replace z8:v1.cell? ⟨w.heap.size,8,none⟩=some (.int .i64 st):=(hb.cell (p:=⟨w.heap.size,8,none⟩) zz).trans z8
  replace z9:v1.cell? ⟨w.heap.size,9,none⟩=some (.int .i64 fa):=(hb.cell (p:=⟨w.heap.size,9,none⟩) zz).trans z9
  replace z10:v1.cell? ⟨w.heap.size,10,none⟩=some (.int .i64 fp):=(hb.cell (p:=⟨w.heap.size,10,none⟩) zz).trans z10
  replace z11:v1.cell? ⟨w.heap.size,11,none⟩=some (.int .i64 bk):=(hb.cell (p:=⟨w.heap.size,11,none⟩) zz).trans z11
  replace zz:w.heap.size < v1.heap.size:=Nat.lt_of_lt_of_le zz hb.size
  replace HB:=hide (HB.out.trans (hb.mono HB.out.size))
  clear hb
  have HM:=hide (mail_zero (a:=a) (b:=b) (f:=f) (s:=s) (len:=len) (g:=g) (pl:=pl) (st:=st) (fa:=fa) (fp:=fp) (bk:=bk))
  obtain ⟨t,ht⟩:∃t,carrierOkB a b f s len g pl st=t:=⟨_,rfl⟩
  rw [ht] at HM ⊢
  clear ht HX HCB
  cases t with
  |false=>
   go_wp2
   go_ret
   exact ⟨ret_bool (by rw [HM.out];rfl),HB.out⟩
  |true=>
   by_cases h1:fa=0
   ·subst h1
    by_cases h2:fp=0
    ·subst h2
     by_cases h3:bk=0
     ·subst h3
      go_wp2
      go_ret
      exact ⟨ret_bool (by rw [HM.out];simp),HB.out⟩
     ·go_wp2
      go_ret
      exact ⟨ret_bool (by have e2:decide (bk=0)=false:=decide_eq_false (by omega);rw [HM.out,e2];simp <;> omega),HB.out⟩
    ·go_wp2
     go_ret
     exact ⟨ret_bool (by have e2:decide (fp=0)=false:=decide_eq_false (by omega);rw [HM.out,e2];simp <;> omega),HB.out⟩
   ·go_wp2
    go_ret
    exact ⟨ret_bool (by have e2:decide (fa=0)=false:=decide_eq_false (by omega);rw [HM.out,e2];simp <;> omega),HB.out⟩
 ·by_cases h1:k=1
  ·subst h1
   have HX:=hide (specFlowOk_any fa fp W0)
   go_enter Tryz.func43,Tryz.ntmps43
   go_wp2_with fail
   refine (HX.out).mono ?_
   rintro e v1 ⟨rfl,hb⟩
   replace z0:v1.cell? ⟨w.heap.size,0,none⟩=some (.int .i64 1):=(hb.cell (p:=⟨w.heap.size,0,none⟩) zz).trans z0
   replace z1:v1.cell? ⟨w.heap.size,1,none⟩=some (.int .i64 a):=(hb.cell (p:=⟨w.heap.size,1,none⟩) zz).trans z1
   replace z2:v1.cell? ⟨w.heap.size,2,none⟩=some (.int .i64 b):=(hb.cell (p:=⟨w.heap.size,2,none⟩) zz).trans z2
   replace z3:v1.cell? ⟨w.heap.size,3,none⟩=some (.int .i64 f):=(hb.cell (p:=⟨w.heap.size,3,none⟩) zz).trans z3
   replace z4:v1.cell? ⟨w.heap.size,4,none⟩=some (.int .i64 s):=(hb.cell (p:=⟨w.heap.size,4,none⟩) zz).trans z4
   replace z5:v1.cell? ⟨w.heap.size,5,none⟩=some (.slice o len cap):=(hb.cell (p:=⟨w.heap.size,5,none⟩) zz).trans z5
   replace z6:v1.cell? ⟨w.heap.size,6,none⟩=some (.slice og gl cg):=(hb.cell (p:=⟨w.heap.size,6,none⟩) zz).trans z6
   replace z7:v1.cell? ⟨w.heap.size,7,none⟩=some (.int .i64 pl):=(hb.cell (p:=⟨w.heap.size,7,none⟩) zz).trans z7
   replace z8:v1.cell? ⟨w.heap.size,8,none⟩=some (.int .i64 st):=(hb.cell (p:=⟨w.heap.size,8,none⟩) zz).trans z8
   replace z9:v1.cell? ⟨w.heap.size,9,none⟩=some (.int .i64 fa):=(hb.cell (p:=⟨w.heap.size,9,none⟩) zz).trans z9
   replace z10:v1.cell? ⟨w.heap.size,10,none⟩=some (.int .i64 fp):=(hb.cell (p:=⟨w.heap.size,10,none⟩) zz).trans z10
   replace z11:v1.cell? ⟨w.heap.size,11,none⟩=some (.int .i64 bk):=(hb.cell (p:=⟨w.heap.size,11,none⟩) zz).trans z11
   replace zz:w.heap.size < v1.heap.size:=Nat.lt_of_lt_of_le zz hb.size
   replace HB:=hide (HB.out.trans (hb.mono HB.out.size))
   clear hb
   have HM:=hide (mail_one (a:=a) (b:=b) (f:=f) (s:=s) (len:=len) (g:=g) (pl:=pl) (st:=st) (fa:=fa) (fp:=fp) (bk:=bk))
   rw [HGN.out] at HM
   obtain ⟨t,ht⟩:∃t,flowOkB fa fp=t:=⟨_,rfl⟩
   rw [ht] at HM ⊢
   clear ht HX HCB h0
   cases t with
   |false=>
    go_wp2
    go_ret
    exact ⟨ret_bool (by rw [HM.out];rfl),HB.out⟩
   |true=>
    have HNC:=hide (noCarB_iff (a:=a) (b:=b) (f:=f) (s:=s) (len:=len) (gl:=gl) (pl:=pl) (st:=st))
    by_cases q0:0≤bk
    ·by_cases q1:bk < 6
     ·by_cases q2:gl=0
      ·subst q2
       by_cases q3:pl=0
       ·subst q3
        by_cases q4:st=0
        ·subst q4
         by_cases q5:len=0
         ·subst q5
          by_cases q6:a=0
          ·subst q6
           by_cases q7:b=0
           ·subst q7
            by_cases q8:f=0
            ·subst q8
             by_cases q9:s=0
             ·subst q9
              go_wp2
              all_goals go_ret
              all_goals exact ⟨ret_bool (by have e0:decide (0≤bk)=true:=decide_eq_true (by omega);have e1:decide (bk < 6)=true:=decide_eq_true (by omega);rw [HM.out,e0,e1];simp [noCarB]),HB.out⟩
             ·skip
              go_wp2
              all_goals go_ret
              all_goals exact ⟨ret_bool (by have e2:decide (s=0)=false:=decide_eq_false (by omega);rw [HM.out];unfold noCarB;rw [e2];simp <;> omega),HB.out⟩
            ·skip
             go_wp2
             all_goals go_ret
             all_goals exact ⟨ret_bool (by have e2:decide (f=0)=false:=decide_eq_false (by omega);rw [HM.out];unfold noCarB;rw [e2];simp <;> omega),HB.out⟩
           ·skip
            go_wp2
            all_goals go_ret
            all_goals exact ⟨ret_bool (by have e2:decide (b=0)=false:=decide_eq_false (by omega);rw [HM.out];unfold noCarB;rw [e2];simp <;> omega),HB.out⟩
          ·skip
           go_wp2
           all_goals go_ret
           all_goals exact ⟨ret_bool (by have e2:decide (a=0)=false:=decide_eq_false (by omega);rw [HM.out];unfold noCarB;rw [e2];simp <;> omega),HB.out⟩
         ·skip
          go_wp2
          all_goals go_ret
          all_goals exact ⟨ret_bool (by have e2:decide (len=0)=false:=decide_eq_false (by omega);rw [HM.out];unfold noCarB;rw [e2];simp <;> omega),HB.out⟩
        ·skip
         go_wp2
         all_goals go_ret
         all_goals exact ⟨ret_bool (by have e2:decide (st=0)=false:=decide_eq_false (by omega);rw [HM.out];unfold noCarB;rw [e2];simp <;> omega),HB.out⟩
       ·skip
        go_wp2
        all_goals go_ret
        all_goals exact ⟨ret_bool (by have e2:decide (pl=0)=false:=decide_eq_false (by omega);rw [HM.out];unfold noCarB;rw [e2];simp <;> omega),HB.out⟩
      ·skip
       go_wp2
       all_goals go_ret
       all_goals exact ⟨ret_bool (by have e2:decide (gl=0)=false:=decide_eq_false (by omega);rw [HM.out];unfold noCarB;rw [e2];simp <;> omega),HB.out⟩
     ·skip
      go_wp2
      all_goals go_ret
      all_goals exact ⟨ret_bool (by have e1:decide (bk < 6)=false:=decide_eq_false (by omega);rw [HM.out,e1];simp <;> omega),HB.out⟩
    ·skip
     go_wp2
     all_goals go_ret
     all_goals exact ⟨ret_bool (by have e0:decide (0≤bk)=false:=decide_eq_false (by omega);rw [HM.out,e0];simp <;> omega),HB.out⟩
  ·have HM:=hide (mail_else (a:=a) (b:=b) (f:=f) (s:=s) (len:=len) (g:=g) (pl:=pl) (st:=st) (fa:=fa) (fp:=fp) (bk:=bk) h0 h1)
   clear HCB
   go_enter Tryz.func43,Tryz.ntmps43
   go_wp2
   go_ret
   exact ⟨ret_bool (by rw [HM.out]),HB.out⟩
theorem noCarrier_any (a b f s:Int) (o og:Option Addr) (len cap gl cg:Nat) (pl st:Int) (w:World):
  Calls Tryz.prog 231 #[crr a b f s (.slice o len cap) (.slice og gl cg) pl st] w fun e w'=> e=.returned (.bool (noCarB a b f s len gl pl st))∧Below w.heap.size w w':=by
 have hB:Below w.heap.size w w:=Below.refl _ _
 have hN:=fun w=> isNoPacket_any a b f s o len cap w
 have hE:noCarB a b f s len gl pl st=(nonePB a b f s len && decide (gl=0) && decide (pl=0) && decide (st=0)):=rfl
 rw [hE]
 clear hE
 generalize nonePB a b f s len=NP at *
 cases NP
 ·skip
  go_enter Tryz.func231,Tryz.ntmps231
  go_wp2_with (first|(go_at_call 247;refine (hN _).mono ?_;rintro e w1 ⟨rfl,hb⟩;obtain ⟨hc,hf⟩:=bcell hb;have hz0:w.heap.size < w1.heap.size:=(by have hz:=hb.size;(try simp at hz);omega);have hB:Below w.heap.size w w1:=(by refine Below.trans ?_ (hb.mono (by have hs:=hB.size;(try simp) <;> omega));(repeat (first|with_reducible (first|exact hB|exact Below.refl _ _|refine Below.drew ?_|refine below_drewN ?_ _|refine Below.alloc ?_ ?_ _|refine Below.setCell ?_ ?_ _)|(focus (simp;first|done|omega))|omega)))))
  all_goals go_ret
  all_goals exact ⟨ret_bool (by simp),by (repeat (first|with_reducible (first|exact hB|exact Below.refl _ _|refine Below.drew ?_|refine below_drewN ?_ _|refine Below.alloc ?_ ?_ _|refine Below.setCell ?_ ?_ _)|(focus (simp;first|done|omega))|omega))⟩
 ·by_cases q5:gl=0
  ·subst q5
   by_cases q6:pl=0
   ·subst q6
    by_cases q7:st=0
    ·subst q7
     go_enter Tryz.func231,Tryz.ntmps231
     go_wp2_with (first|(go_at_call 247;refine (hN _).mono ?_;rintro e w1 ⟨rfl,hb⟩;obtain ⟨hc,hf⟩:=bcell hb;have hz0:w.heap.size < w1.heap.size:=(by have hz:=hb.size;(try simp at hz);omega);have hB:Below w.heap.size w w1:=(by refine Below.trans ?_ (hb.mono (by have hs:=hB.size;(try simp) <;> omega));(repeat (first|with_reducible (first|exact hB|exact Below.refl _ _|refine Below.drew ?_|refine below_drewN ?_ _|refine Below.alloc ?_ ?_ _|refine Below.setCell ?_ ?_ _)|(focus (simp;first|done|omega))|omega)))))
     all_goals go_ret
     all_goals exact ⟨ret_bool (by simp),by (repeat (first|with_reducible (first|exact hB|exact Below.refl _ _|refine Below.drew ?_|refine below_drewN ?_ _|refine Below.alloc ?_ ?_ _|refine Below.setCell ?_ ?_ _)|(focus (simp;first|done|omega))|omega))⟩
    ·skip
     go_enter Tryz.func231,Tryz.ntmps231
     go_wp2_with (first|(go_at_call 247;refine (hN _).mono ?_;rintro e w1 ⟨rfl,hb⟩;obtain ⟨hc,hf⟩:=bcell hb;have hz0:w.heap.size < w1.heap.size:=(by have hz:=hb.size;(try simp at hz);omega);have hB:Below w.heap.size w w1:=(by refine Below.trans ?_ (hb.mono (by have hs:=hB.size;(try simp) <;> omega));(repeat (first|with_reducible (first|exact hB|exact Below.refl _ _|refine Below.drew ?_|refine below_drewN ?_ _|refine Below.alloc ?_ ?_ _|refine Below.setCell ?_ ?_ _)|(focus (simp;first|done|omega))|omega)))))
     all_goals go_ret
     all_goals exact ⟨ret_bool (by have e2:decide (st=0)=false:=decide_eq_false (by omega);rw [e2];simp <;> omega),by (repeat (first|with_reducible (first|exact hB|exact Below.refl _ _|refine Below.drew ?_|refine below_drewN ?_ _|refine Below.alloc ?_ ?_ _|refine Below.setCell ?_ ?_ _)|(focus (simp;first|done|omega))|omega))⟩
   ·skip
    go_enter Tryz.func231,Tryz.ntmps231
    go_wp2_with (first|(go_at_call 247;refine (hN _).mono ?_;rintro e w1 ⟨rfl,hb⟩;obtain ⟨hc,hf⟩:=bcell hb;have hz0:w.heap.size < w1.heap.size:=(by have hz:=hb.size;(try simp at hz);omega);have hB:Below w.heap.size w w1:=(by refine Below.trans ?_ (hb.mono (by have hs:=hB.size;(try simp) <;> omega));(repeat (first|with_reducible (first|exact hB|exact Below.refl _ _|refine Below.drew ?_|refine below_drewN ?_ _|refine Below.alloc ?_ ?_ _|refine Below.setCell ?_ ?_ _)|(focus (simp;first|done|omega))|omega)))))
    all_goals go_ret
    all_goals exact ⟨ret_bool (by have e2:decide (pl=0)=false:=decide_eq_false (by omega);rw [e2];simp <;> omega),by (repeat (first|with_reducible (first|exact hB|exact Below.refl _ _|refine Below.drew ?_|refine below_drewN ?_ _|refine Below.alloc ?_ ?_ _|refine Below.setCell ?_ ?_ _)|(focus (simp;first|done|omega))|omega))⟩
  ·skip
   go_enter Tryz.func231,Tryz.ntmps231
   go_wp2_with (first|(go_at_call 247;refine (hN _).mono ?_;rintro e w1 ⟨rfl,hb⟩;obtain ⟨hc,hf⟩:=bcell hb;have hz0:w.heap.size < w1.heap.size:=(by have hz:=hb.size;(try simp at hz);omega);have hB:Below w.heap.size w w1:=(by refine Below.trans ?_ (hb.mono (by have hs:=hB.size;(try simp) <;> omega));(repeat (first|with_reducible (first|exact hB|exact Below.refl _ _|refine Below.drew ?_|refine below_drewN ?_ _|refine Below.alloc ?_ ?_ _|refine Below.setCell ?_ ?_ _)|(focus (simp;first|done|omega))|omega)))))
   all_goals go_ret
   all_goals exact ⟨ret_bool (by have e2:decide (gl=0)=false:=decide_eq_false (by omega);rw [e2];simp <;> omega),by (repeat (first|with_reducible (first|exact hB|exact Below.refl _ _|refine Below.drew ?_|refine below_drewN ?_ _|refine Below.alloc ?_ ?_ _|refine Below.setCell ?_ ?_ _)|(focus (simp;first|done|omega))|omega))⟩
theorem implMailOk_any (k a b f s:Int) (o og:Option Addr) (len cap cg:Nat) (g:List (Int × Int)) (pl st fa fp bk:Int) (w:World) (hl:len≤maxLen) (hgl:g.length≤maxLen) (hG:RdG w og g):
  Calls Tryz.prog 205 #[mlv k a b f s (.slice o len cap) (.slice og g.length cg) pl st fa fp bk] w fun e w'=> e=.returned (.bool (mailB k a b f s len g pl st fa fp bk))∧Below w.heap.size w w':=by
 obtain ⟨gl,hgn⟩:∃n,g.length=n:=⟨_,rfl⟩
 have HGN:=hide hgn
 have HCB:=hide (fun W (hb:Below w.heap.size w W)=> implCarrierOk_any a b f s o og len cap cg g pl st W hl hgl (hG.kept hb))
 rw [hgn] at HCB ⊢
 clear hgn hG hgl
 obtain ⟨W0,hW0⟩:∃W,(w.alloc (.cells #[.int .i64 k,.int .i64 a,.int .i64 b,.int .i64 f,.int .i64 s,.slice o len cap,.slice og gl cg,.int .i64 pl,.int .i64 st,.int .i64 fa,.int .i64 fp,.int .i64 bk] 96))=W:=⟨_,rfl⟩
 have hb_W0:Below w.heap.size w W0:=by rw [←hW0];exact ((Below.refl _ _).alloc (Nat.le_refl _) _)
 have HB:=hide hb_W0
 clear hb_W0
 have zz:w.heap.size < W0.heap.size:=by rw [←hW0];simp
 have z0:W0.cell? ⟨w.heap.size,0,none⟩=some (.int .i64 k):=by rw [←hW0];simp [go_sem]
 have z1:W0.cell? ⟨w.heap.size,1,none⟩=some (.int .i64 a):=by rw [←hW0];simp [go_sem]
 have z2:W0.cell? ⟨w.heap.size,2,none⟩=some (.int .i64 b):=by rw [←hW0];simp [go_sem]
 have z3:W0.cell? ⟨w.heap.size,3,none⟩=some (.int .i64 f):=by rw [←hW0];simp [go_sem]
 have z4:W0.cell? ⟨w.heap.size,4,none⟩=some (.int .i64 s):=by rw [←hW0];simp [go_sem]
 have z5:W0.cell? ⟨w.heap.size,5,none⟩=some (.slice o len cap):=by rw [←hW0];simp [go_sem]
 have z6:W0.cell? ⟨w.heap.size,6,none⟩=some (.slice og gl cg):=by rw [←hW0];simp [go_sem]
 have z7:W0.cell? ⟨w.heap.size,7,none⟩=some (.int .i64 pl):=by rw [←hW0];simp [go_sem]
 have z8:W0.cell? ⟨w.heap.size,8,none⟩=some (.int .i64 st):=by rw [←hW0];simp [go_sem]
 have z9:W0.cell? ⟨w.heap.size,9,none⟩=some (.int .i64 fa):=by rw [←hW0];simp [go_sem]
 have z10:W0.cell? ⟨w.heap.size,10,none⟩=some (.int .i64 fp):=by rw [←hW0];simp [go_sem]
 have z11:W0.cell? ⟨w.heap.size,11,none⟩=some (.int .i64 bk):=by rw [←hW0];simp [go_sem]
 by_cases h0:k=0
 ·subst h0
  have HX:=hide (HCB.out W0 HB.out)
  go_enter Tryz.func205,Tryz.ntmps205
  go_wp2_with fail
  refine (HX.out).mono ?_
  rintro e v1 ⟨rfl,hb⟩
  replace z0:v1.cell? ⟨w.heap.size,0,none⟩=some (.int .i64 0):=(hb.cell (p:=⟨w.heap.size,0,none⟩) zz).trans z0
  replace z1:v1.cell? ⟨w.heap.size,1,none⟩=some (.int .i64 a):=(hb.cell (p:=⟨w.heap.size,1,none⟩) zz).trans z1
  replace z2:v1.cell? ⟨w.heap.size,2,none⟩=some (.int .i64 b):=(hb.cell (p:=⟨w.heap.size,2,none⟩) zz).trans z2
  replace z3:v1.cell? ⟨w.heap.size,3,none⟩=some (.int .i64 f):=(hb.cell (p:=⟨w.heap.size,3,none⟩) zz).trans z3
  replace z4:v1.cell? ⟨w.heap.size,4,none⟩=some (.int .i64 s):=(hb.cell (p:=⟨w.heap.size,4,none⟩) zz).trans z4
  replace z5:v1.cell? ⟨w.heap.size,5,none⟩=some (.slice o len cap):=(hb.cell (p:=⟨w.heap.size,5,none⟩) zz).trans z5
  replace z6:v1.cell? ⟨w.heap.size,6,none⟩=some (.slice og gl cg):=(hb.cell (p:=⟨w.heap.size,6,none⟩) zz).trans z6
  replace z7:v1.cell? ⟨w.heap.size,7,none⟩=some (.int .i64 pl):=(hb.cell (p:=⟨w.heap.size,7,none⟩) zz).trans z7
  replace z8:v1.cell? ⟨w.heap.size,8,none⟩=some (.int .i64 st):=(hb.cell (p:=⟨w.heap.size,8,none⟩) zz).trans z8
  replace z9:v1.cell? ⟨w.heap.size,9,none⟩=some (.int .i64 fa):=(hb.cell (p:=⟨w.heap.size,9,none⟩) zz).trans z9
  replace z10:v1.cell? ⟨w.heap.size,10,none⟩=some (.int .i64 fp):=(hb.cell (p:=⟨w.heap.size,10,none⟩) zz).trans z10
  replace z11:v1.cell? ⟨w.heap.size,11,none⟩=some (.int .i64 bk):=(hb.cell (p:=⟨w.heap.size,11,none⟩) zz).trans z11
  replace zz:w.heap.size < v1.heap.size:=Nat.lt_of_lt_of_le zz hb.size
  replace HB:=hide (HB.out.trans (hb.mono HB.out.size))
  clear hb
  have HM:=hide (mail_zero (a:=a) (b:=b) (f:=f) (s:=s) (len:=len) (g:=g) (pl:=pl) (st:=st) (fa:=fa) (fp:=fp) (bk:=bk))
  obtain ⟨t,ht⟩:∃t,carrierOkB a b f s len g pl st=t:=⟨_,rfl⟩
  rw [ht] at HM ⊢
  clear ht HX HCB
  cases t with
  |false=>
   go_wp2
   go_ret
   exact ⟨ret_bool (by rw [HM.out];rfl),HB.out⟩
  |true=>
   by_cases h1:fa=0
   ·subst h1
    by_cases h2:fp=0
    ·subst h2
     by_cases h3:bk=0
     ·subst h3
      go_wp2
      go_ret
      exact ⟨ret_bool (by rw [HM.out];simp),HB.out⟩
     ·go_wp2
      go_ret
      exact ⟨ret_bool (by have e2:decide (bk=0)=false:=decide_eq_false (by omega);rw [HM.out,e2];simp <;> omega),HB.out⟩
    ·go_wp2
     go_ret
     exact ⟨ret_bool (by have e2:decide (fp=0)=false:=decide_eq_false (by omega);rw [HM.out,e2];simp <;> omega),HB.out⟩
   ·go_wp2
    go_ret
    exact ⟨ret_bool (by have e2:decide (fa=0)=false:=decide_eq_false (by omega);rw [HM.out,e2];simp <;> omega),HB.out⟩
 ·by_cases h1:k=1
  ·subst h1
   have HX:=hide (implFlowOk_any fa fp W0)
   go_enter Tryz.func205,Tryz.ntmps205
   go_wp2_with fail
   refine (HX.out).mono ?_
   rintro e v1 ⟨rfl,hb⟩
   replace z0:v1.cell? ⟨w.heap.size,0,none⟩=some (.int .i64 1):=(hb.cell (p:=⟨w.heap.size,0,none⟩) zz).trans z0
   replace z1:v1.cell? ⟨w.heap.size,1,none⟩=some (.int .i64 a):=(hb.cell (p:=⟨w.heap.size,1,none⟩) zz).trans z1
   replace z2:v1.cell? ⟨w.heap.size,2,none⟩=some (.int .i64 b):=(hb.cell (p:=⟨w.heap.size,2,none⟩) zz).trans z2
   replace z3:v1.cell? ⟨w.heap.size,3,none⟩=some (.int .i64 f):=(hb.cell (p:=⟨w.heap.size,3,none⟩) zz).trans z3
   replace z4:v1.cell? ⟨w.heap.size,4,none⟩=some (.int .i64 s):=(hb.cell (p:=⟨w.heap.size,4,none⟩) zz).trans z4
   replace z5:v1.cell? ⟨w.heap.size,5,none⟩=some (.slice o len cap):=(hb.cell (p:=⟨w.heap.size,5,none⟩) zz).trans z5
   replace z6:v1.cell? ⟨w.heap.size,6,none⟩=some (.slice og gl cg):=(hb.cell (p:=⟨w.heap.size,6,none⟩) zz).trans z6
   replace z7:v1.cell? ⟨w.heap.size,7,none⟩=some (.int .i64 pl):=(hb.cell (p:=⟨w.heap.size,7,none⟩) zz).trans z7
   replace z8:v1.cell? ⟨w.heap.size,8,none⟩=some (.int .i64 st):=(hb.cell (p:=⟨w.heap.size,8,none⟩) zz).trans z8
   replace z9:v1.cell? ⟨w.heap.size,9,none⟩=some (.int .i64 fa):=(hb.cell (p:=⟨w.heap.size,9,none⟩) zz).trans z9
   replace z10:v1.cell? ⟨w.heap.size,10,none⟩=some (.int .i64 fp):=(hb.cell (p:=⟨w.heap.size,10,none⟩) zz).trans z10
   replace z11:v1.cell? ⟨w.heap.size,11,none⟩=some (.int .i64 bk):=(hb.cell (p:=⟨w.heap.size,11,none⟩) zz).trans z11
   replace zz:w.heap.size < v1.heap.size:=Nat.lt_of_lt_of_le zz hb.size
   replace HB:=hide (HB.out.trans (hb.mono HB.out.size))
   clear hb
   have HM:=hide (mail_one (a:=a) (b:=b) (f:=f) (s:=s) (len:=len) (g:=g) (pl:=pl) (st:=st) (fa:=fa) (fp:=fp) (bk:=bk))
   rw [HGN.out] at HM
   obtain ⟨t,ht⟩:∃t,flowOkB fa fp=t:=⟨_,rfl⟩
   rw [ht] at HM ⊢
   clear ht HX HCB h0
   cases t with
   |false=>
    go_wp2
    go_ret
    exact ⟨ret_bool (by rw [HM.out];rfl),HB.out⟩
   |true=>
    by_cases q0:0≤bk∧bk < 6
    ·have HIB:Hid (Calls Tryz.prog 74 #[.int .i64 bk] v1 fun e w'=> e=.returned (.bool true)∧v1=w'):=by
      have h:=isBack_any bk v1
      rw [decide_eq_true q0.1,decide_eq_true q0.2] at h
      exact h
     go_wp2_with fail
     refine HIB.out.mono ?_
     rintro e _ ⟨rfl,rfl⟩
     have HNC:=hide (noCarrier_any a b f s o og len cap gl cg pl st v1)
     go_wp2_with fail
     refine HNC.out.mono ?_
     rintro e v3 ⟨rfl,hb⟩
     replace HB:=hide (HB.out.trans (hb.mono HB.out.size))
     go_wp2
     go_ret
     exact ⟨ret_bool (by rw [HM.out,decide_eq_true q0.1,decide_eq_true q0.2];simp),HB.out⟩
    ·have HIB:Hid (Calls Tryz.prog 74 #[.int .i64 bk] v1 fun e w'=> e=.returned (.bool false)∧v1=w'):=by
      have h:=isBack_any bk v1
      have e9:(decide (0≤bk) && decide (bk < 6))=false:=by rw [Bool.and_eq_false_iff];simp only [decide_eq_false_iff_not];omega
      rw [e9] at h
      exact h
     go_wp2_with fail
     refine HIB.out.mono ?_
     rintro e _ ⟨rfl,rfl⟩
     go_wp2
     go_ret
     exact ⟨ret_bool (by rw [HM.out];have e9:(decide (0≤bk) && decide (bk < 6))=false:=(by rw [Bool.and_eq_false_iff];simp only [decide_eq_false_iff_not];omega);rw [Bool.true_and,e9];rfl),HB.out⟩
  ·have HM:=hide (mail_else (a:=a) (b:=b) (f:=f) (s:=s) (len:=len) (g:=g) (pl:=pl) (st:=st) (fa:=fa) (fp:=fp) (bk:=bk) h0 h1)
   clear HCB
   go_enter Tryz.func205,Tryz.ntmps205
   go_wp2
   go_ret
   exact ⟨ret_bool (by rw [HM.out]),HB.out⟩
end Go.Proofs.YtgplppfbinfelaaGreat
