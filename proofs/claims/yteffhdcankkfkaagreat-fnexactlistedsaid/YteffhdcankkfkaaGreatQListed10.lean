/- The library's down over the scoreboard. -/
import Derived.Deep.RegionWith
import Derived.Test.YteffhdcankkfkaaGreatQListed09
namespace Go.Proofs.YteffhdcankkfkaaGreat
open Go.ChangeShapes Go.WideShapes Go.ChangeAt Go.RowKit Go.Joins
set_option linter.unusedVariables false
set_option linter.unusedSimpArgs false
set_option maxRecDepth 100000
set_option maxHeartbeats 40000000
theorem Qga (k g c:Nat) (l:List Sc) (n:Nat) (w:World) (hb:Brd k g c w l) (hn:n<=l.length) (ac:okD l) (aa:Q5e l n 0) (ae:l.length<=1048576):
  Calls Tryz.prog 271 #[.iface 356 (.pointer (some ⟨k,0,none⟩)),.int .i64 0,.int .i64 n] w fun e w'=>(∃r,e=.returned (.bool r))/\∃l',Brd k g c w' l'/\Q3j l' n/\Same l l' n/\okD l'/\w.grownBy w' (some g):=by
 have eL:∀args w,(callFunc 295 args).run Tryz.prog w=.ok (.enter 295 args) w:=enters_of Tryz.func295 (by kernel_rfl) rfl
 have eS:∀args w,(callFunc 298 args).run Tryz.prog w=.ok (.enter 298 args) w:=enters_of Tryz.func298 (by kernel_rfl) rfl
 go_enter Tryz.func271,Tryz.ntmps271;go_wp2
 go_loopw [7] (fun iv wr=> ∃(q:Nat) (d:List Sc),iv=.int .i64 q/\q<=n/\d.length=l.length/\Brd k g c wr d/\Q5e d n q/\Same l d n/\okD d/\w.grownBy wr (some g))
  (fun iv _=>n - (intOf iv).toNat)
 case atStart=>exact⟨0,l,rfl,Kcq _,rfl,hb,aa,Same.refl _ _,ac,World.grownBy.refl _ _⟩
 case round=>
  obtain⟨q,d,rfl,hq,u,v,i,j,b,Z⟩:=hrel;have y:=v.cell;have J:=Q00 u;have f:=Q00 v;have I:=Q00 Z
  have mL:=fun m=>Q0C Q4G (v.drewN m).cell
  have M:=Q0C Q4G y
  have N:=fun m m'=>Q0C Q4G ((v.drewN m).drewN m').cell
  have mS:=fun m=>Q0C Q4T (v.drewN m).cell
  have O:=Q0C Q4T y
  have P:=fun m m'=>Q0C Q4T ((v.drewN m).drewN m').cell
  obtain⟨h,A⟩:∃h:Nat,h=2 * q+1:=⟨_,rfl⟩;obtain⟨p,B⟩:∃p:Nat,p=h+1:=⟨_,rfl⟩
  have e1:2 * (q:Int)+1=(h:Int):=by omega
  have e2:(h:Int)+1=(p:Int):=by omega
  have z:True:=trivial;clear Z v y
  by_cases hA:h < n
  ·have ab:¬(n:Int)<=(h:Int):=by omega
   have af:¬(h:Int) < 0:=by omega
   by_cases hB2:p < n
   ·have R:=fun W (C:Brd k g c W d)=>Q2G (some ⟨g,0,none⟩) c d p h W W.heap.size C.row.rd (by omega) (by omega) (by omega)
    by_cases hl2:fr d p < fr d h
    ·rw[Q1r (b p (by omega)) (b h (by omega)),decide_eq_true hl2]at R
     have T:=Q00 R;clear R
     have a:∀x,1<=x->x < n->(x - 1) / 2=q->fr d p<=fr d x:=fun x F h2 G=>by rcases(show x=h\/x=p by omega)with e|e <;> subst e <;> omega
     have s:=fun W (C:Brd k g c W d)=>Q2G (some ⟨g,0,none⟩) c d p q W W.heap.size C.row.rd (by omega) (by omega) (by omega)
     by_cases hlt:fr d p < fr d q
     ·rw[Q1r (b p (by omega)) (b q (by omega)),decide_eq_true hlt]at s
      have D:=Q00 s;have X:=Q00 (fun W (C:Brd k g c W d)=>Q2H (k+1) g c d q p W C.row (by omega) (by omega) (by omega));have Y:=Q00 (Q6d i (by omega) (by omega) (by omega) (by omega) hlt a);have U:=Q00 (Same.trans j (Q3P (l:=d) q p n (by omega) (by omega) (by omega)));have V:=Q00 (Q4o q p (by omega) (by omega) b);clear s i j b hlt a u z A B
      go_wp2_with (first|(go_at_call_of 295 (Value.int .i64 (q:Int));refine(D.out _ (by first|exact f.out|exact f.out.drewN _)).mono ?_;rintro e w2 ⟨rfl,L,rfl⟩)|(go_at_call 295;refine(T.out _ (by first|exact f.out|exact f.out.drewN _)).mono ?_;rintro e w1 ⟨rfl,m1,rfl⟩)|(go_at_call 298;refine(X.out _ (by first|exact f.out|exact f.out.drewN _|exact(f.out.drewN _).drewN _)).mono ?_;rintro e w3 ⟨rfl,E,t⟩;clear mL M mS O P N));go_roundw
      case rel=>exact⟨p,Q28 d q p,rfl,by omega,by rw[Q0J];exact J.out,Brd.swap (f.out.drewN _) E t,Y.out,U.out,V.out,Q1g I.out (Q1g (Q2z wr _ _) t)⟩
      case measure=>simp[intOf];omega
     ·rw[Q1r (b p (by omega)) (b q (by omega)),decide_eq_false hlt]at s
      have D:=Q00 s;have H:=Q00 (Q4I i (fun x F h2 G=>by have:=a x F h2 G;omega));clear s i hlt a u z A B;go_wp2_with (first|(go_at_call_of 295 (Value.int .i64 (q:Int));refine(D.out _ (by first|exact f.out|exact f.out.drewN _)).mono ?_;rintro e w2 ⟨rfl,L,rfl⟩)|(go_at_call 295;refine(T.out _ (by first|exact f.out|exact f.out.drewN _)).mono ?_;rintro e w1 ⟨rfl,m1,rfl⟩));go_ret;exact⟨⟨_,rfl⟩,d,f.out.drewN _,H.out,j,b,Q1g I.out (Q2z wr _ _)⟩
    ·rw[Q1r (b p (by omega)) (b h (by omega)),decide_eq_false hl2]at R
     have T:=Q00 R;clear R
     have a:∀x,1<=x->x < n->(x - 1) / 2=q->fr d h<=fr d x:=fun x F h2 G=>by rcases(show x=h\/x=p by omega)with e|e <;> subst e <;> omega
     have s:=fun W (C:Brd k g c W d)=>Q2G (some ⟨g,0,none⟩) c d h q W W.heap.size C.row.rd (by omega) (by omega) (by omega)
     by_cases hlt:fr d h < fr d q
     ·rw[Q1r (b h (by omega)) (b q (by omega)),decide_eq_true hlt]at s
      have D:=Q00 s;have X:=Q00 (fun W (C:Brd k g c W d)=>Q2H (k+1) g c d q h W C.row (by omega) (by omega) (by omega));have Y:=Q00 (Q6d i (by omega) (by omega) (by omega) (by omega) hlt a);have U:=Q00 (Same.trans j (Q3P (l:=d) q h n (by omega) (by omega) (by omega)));have V:=Q00 (Q4o q h (by omega) (by omega) b);clear s i j b hlt a u z A B
      go_wp2_with (first|(go_at_call_of 295 (Value.int .i64 (q:Int));refine(D.out _ (by first|exact f.out|exact f.out.drewN _)).mono ?_;rintro e w2 ⟨rfl,L,rfl⟩)|(go_at_call 295;refine(T.out _ (by first|exact f.out|exact f.out.drewN _)).mono ?_;rintro e w1 ⟨rfl,m1,rfl⟩)|(go_at_call 298;refine(X.out _ (by first|exact f.out|exact f.out.drewN _|exact(f.out.drewN _).drewN _)).mono ?_;rintro e w3 ⟨rfl,E,t⟩;clear mL M mS O P N));go_roundw
      case rel=>exact⟨h,Q28 d q h,rfl,by omega,by rw[Q0J];exact J.out,Brd.swap (f.out.drewN _) E t,Y.out,U.out,V.out,Q1g I.out (Q1g (Q2z wr _ _) t)⟩
      case measure=>simp[intOf];omega
     ·rw[Q1r (b h (by omega)) (b q (by omega)),decide_eq_false hlt]at s
      have D:=Q00 s;have H:=Q00 (Q4I i (fun x F h2 G=>by have:=a x F h2 G;omega));clear s i hlt a u z A B;go_wp2_with (first|(go_at_call_of 295 (Value.int .i64 (q:Int));refine(D.out _ (by first|exact f.out|exact f.out.drewN _)).mono ?_;rintro e w2 ⟨rfl,L,rfl⟩)|(go_at_call 295;refine(T.out _ (by first|exact f.out|exact f.out.drewN _)).mono ?_;rintro e w1 ⟨rfl,m1,rfl⟩));go_ret;exact⟨⟨_,rfl⟩,d,f.out.drewN _,H.out,j,b,Q1g I.out (Q2z wr _ _)⟩
   ·have ad:¬(p:Int) < (n:Int):=by omega
    have a:∀x,1<=x->x < n->(x - 1) / 2=q->fr d h<=fr d x:=fun x F h2 G=>by rcases(show x=h by omega)with rfl;omega
    have s:=fun W (C:Brd k g c W d)=>Q2G (some ⟨g,0,none⟩) c d h q W W.heap.size C.row.rd (by omega) (by omega) (by omega)
    by_cases hlt:fr d h < fr d q
    ·rw[Q1r (b h (by omega)) (b q (by omega)),decide_eq_true hlt]at s
     have D:=Q00 s;have X:=Q00 (fun W (C:Brd k g c W d)=>Q2H (k+1) g c d q h W C.row (by omega) (by omega) (by omega));have Y:=Q00 (Q6d i (by omega) (by omega) (by omega) (by omega) hlt a);have U:=Q00 (Same.trans j (Q3P (l:=d) q h n (by omega) (by omega) (by omega)));have V:=Q00 (Q4o q h (by omega) (by omega) b);clear s i j b hlt a u z A B
     go_wp2_with (first|(go_at_call_of 295 (Value.int .i64 (q:Int));refine(D.out _ (by first|exact f.out|exact f.out.drewN _)).mono ?_;rintro e w2 ⟨rfl,L,rfl⟩)|(go_at_call 298;refine(X.out _ (by first|exact f.out|exact f.out.drewN _|exact(f.out.drewN _).drewN _)).mono ?_;rintro e w3 ⟨rfl,E,t⟩;clear mL M mS O P N));go_roundw
     case rel=>exact⟨h,Q28 d q h,rfl,by omega,by rw[Q0J];exact J.out,Brd.swap (f.out.drewN L) E t,Y.out,U.out,V.out,Q1g I.out (Q1g (Q2z wr _ _) t)⟩
     case measure=>simp[intOf];omega
    ·rw[Q1r (b h (by omega)) (b q (by omega)),decide_eq_false hlt]at s
     have D:=Q00 s;have H:=Q00 (Q4I i (fun x F h2 G=>by have:=a x F h2 G;omega));clear s i hlt a u z A B;go_wp2_with (first|(go_at_call_of 295 (Value.int .i64 (q:Int));refine(D.out _ (by first|exact f.out|exact f.out.drewN _)).mono ?_;rintro e w2 ⟨rfl,L,rfl⟩));go_ret;exact⟨⟨_,rfl⟩,d,f.out.drewN L,H.out,j,b,Q1g I.out (Q2z wr _ _)⟩
  ·have ab:(n:Int)<=(h:Int):=by omega
   have H:=Q00 (Q4I i (fun x F h2 G=>by omega));clear i u z A B;go_wp2;go_ret;exact⟨⟨_,rfl⟩,d,f.out,H.out,j,b,I.out⟩
end Go.Proofs.YteffhdcankkfkaaGreat
