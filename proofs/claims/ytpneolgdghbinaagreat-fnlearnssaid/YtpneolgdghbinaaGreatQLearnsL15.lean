/- The library's down over the scoreboard. -/
import Derived.Deep.RegionWith
import Derived.Test.YtpneolgdghbinaaGreatQLearnsL14
namespace Go.Proofs.YtpneolgdghbinaaGreat
open Go.ChangeShapes Go.WideShapes Go.ChangeAt Go.RowKit Go.Joins
set_option linter.unusedVariables false
set_option linter.unusedSimpArgs false
set_option maxRecDepth 100000
set_option maxHeartbeats 40000000
theorem Q9b (k g c:Nat) (l:List Sc) (n:Nat) (w:World) (hb:Brd k g c w l) (hn:n≤l.length) (ab:okD l) (aa:Q2m l n 0) (ae:l.length≤1048576):
  Calls Tryz.prog 180 #[.iface 262 (.pointer (some ⟨k,0,none⟩)),.int .i64 0,.int .i64 n] w fun e w'=> (∃r,e=.returned (.bool r))∧∃l',Brd k g c w' l'∧HeapP l' n∧Same l l' n∧okD l'∧w.grownBy w' (some g):=by
 have eL:∀args w,(callFunc 215 args).run Tryz.prog w=.ok (.enter 215 args) w:=enters_of Tryz.func215 (by kernel_rfl) rfl
 have eS:∀args w,(callFunc 218 args).run Tryz.prog w=.ok (.enter 218 args) w:=enters_of Tryz.func218 (by kernel_rfl) rfl
 go_enter Tryz.func180,Tryz.ntmps180;go_wp2
 go_loopw [7] (fun iv wr=> ∃(q:Nat) (d:List Sc),iv=.int .i64 q∧q≤n∧d.length=l.length∧Brd k g c wr d∧Q2m d n q∧Same l d n∧okD d∧w.grownBy wr (some g))
  (fun iv _=> n - (intOf iv).toNat)
 case atStart=> exact ⟨0,l,rfl,Kcq _,rfl,hb,aa,Same.refl _ _,ab,World.grownBy.refl _ _⟩
 case round=>
  obtain ⟨q,d,rfl,hq,u,B,i,j,b,Z⟩:=hrel;have z:=B.cell;have O:=Q01 u;have h:=Q01 B;have H:=Q01 Z
  have mL:=fun m=> Q0r Q27 (B.drewN m).cell
  have N:=Q0r Q27 z
  have P:=fun m m'=> Q0r Q27 ((B.drewN m).drewN m').cell
  have mS:=fun m=> Q0r Q2e (B.drewN m).cell
  have J:=Q0r Q2e z
  have M:=fun m m'=> Q0r Q2e ((B.drewN m).drewN m').cell
  obtain ⟨f,v⟩:∃f:Nat,f=2 * q+1:=⟨_,rfl⟩;obtain ⟨p,A⟩:∃p:Nat,p=f+1:=⟨_,rfl⟩
  have e1:2 * (q:Int)+1=(f:Int):=by omega
  have e2:(f:Int)+1=(p:Int):=by omega
  have y:True:=trivial;clear Z B z
  by_cases hA:f < n
  ·have ac:¬(n:Int)≤(f:Int):=by omega
   have af:¬(f:Int) < 0:=by omega
   by_cases hB2:p < n
   ·have R:=fun W (C:Brd k g c W d)=> Q3I (some ⟨g,0,none⟩) c d p f W W.heap.size C.row.rd (by omega) (by omega) (by omega)
    by_cases hl2:fr d p < fr d f
    ·rw [Q0K (b p (by omega)) (b f (by omega)),decide_eq_true hl2] at R
     have Y:=Q01 R;clear R
     have a:∀x,1≤x→x < n→(x - 1) / 2=q→fr d p≤fr d x:=fun x G h2 F=> by rcases (show x=f∨x=p by omega) with e|e <;> subst e <;> omega
     have s:=fun W (C:Brd k g c W d)=> Q3I (some ⟨g,0,none⟩) c d p q W W.heap.size C.row.rd (by omega) (by omega) (by omega)
     by_cases hlt:fr d p < fr d q
     ·rw [Q0K (b p (by omega)) (b q (by omega)),decide_eq_true hlt] at s
      have E:=Q01 s;have HS:=Q01 (fun W (C:Brd k g c W d)=> Q3J (k+1) g c d q p W C.row (by omega) (by omega) (by omega));have U:=Q01 (Q2W i (by omega) (by omega) (by omega) (by omega) hlt a);have V:=Q01 (Same.trans j (swapD_same (l:=d) q p n (by omega) (by omega) (by omega)));have T:=Q01 (Q2b q p (by omega) (by omega) b);clear s i j b hlt a u y v A
      go_wp2_with (first|(go_at_call_of 215 (Value.int .i64 (q:Int));refine (E.out _ (by first|exact h.out|exact h.out.drewN _)).mono ?_;rintro e X ⟨rfl,I,rfl⟩)|(go_at_call 215;refine (Y.out _ (by first|exact h.out|exact h.out.drewN _)).mono ?_;rintro e w1 ⟨rfl,m1,rfl⟩)|(go_at_call 218;refine (HS.out _ (by first|exact h.out|exact h.out.drewN _|exact (h.out.drewN _).drewN _)).mono ?_;rintro e w3 ⟨rfl,D,t⟩;clear mL N mS J M P));go_roundw
      case rel=> exact ⟨p,Q1m d q p,rfl,by omega,by rw [Q0u];exact O.out,Brd.swap (h.out.drewN _) D t,U.out,V.out,T.out,Q0G H.out (Q0G (Q1p wr _ _) t)⟩
      case measure=> simp [intOf];omega
     ·rw [Q0K (b p (by omega)) (b q (by omega)),decide_eq_false hlt] at s
      have E:=Q01 s;have L:=Q01 (Q26 i (fun x G h2 F=> by have:=a x G h2 F;omega));clear s i hlt a u y v A;go_wp2_with (first|(go_at_call_of 215 (Value.int .i64 (q:Int));refine (E.out _ (by first|exact h.out|exact h.out.drewN _)).mono ?_;rintro e X ⟨rfl,I,rfl⟩)|(go_at_call 215;refine (Y.out _ (by first|exact h.out|exact h.out.drewN _)).mono ?_;rintro e w1 ⟨rfl,m1,rfl⟩));go_ret;exact ⟨⟨_,rfl⟩,d,h.out.drewN _,L.out,j,b,Q0G H.out (Q1p wr _ _)⟩
    ·rw [Q0K (b p (by omega)) (b f (by omega)),decide_eq_false hl2] at R
     have Y:=Q01 R;clear R
     have a:∀x,1≤x→x < n→(x - 1) / 2=q→fr d f≤fr d x:=fun x G h2 F=> by rcases (show x=f∨x=p by omega) with e|e <;> subst e <;> omega
     have s:=fun W (C:Brd k g c W d)=> Q3I (some ⟨g,0,none⟩) c d f q W W.heap.size C.row.rd (by omega) (by omega) (by omega)
     by_cases hlt:fr d f < fr d q
     ·rw [Q0K (b f (by omega)) (b q (by omega)),decide_eq_true hlt] at s
      have E:=Q01 s;have HS:=Q01 (fun W (C:Brd k g c W d)=> Q3J (k+1) g c d q f W C.row (by omega) (by omega) (by omega));have U:=Q01 (Q2W i (by omega) (by omega) (by omega) (by omega) hlt a);have V:=Q01 (Same.trans j (swapD_same (l:=d) q f n (by omega) (by omega) (by omega)));have T:=Q01 (Q2b q f (by omega) (by omega) b);clear s i j b hlt a u y v A
      go_wp2_with (first|(go_at_call_of 215 (Value.int .i64 (q:Int));refine (E.out _ (by first|exact h.out|exact h.out.drewN _)).mono ?_;rintro e X ⟨rfl,I,rfl⟩)|(go_at_call 215;refine (Y.out _ (by first|exact h.out|exact h.out.drewN _)).mono ?_;rintro e w1 ⟨rfl,m1,rfl⟩)|(go_at_call 218;refine (HS.out _ (by first|exact h.out|exact h.out.drewN _|exact (h.out.drewN _).drewN _)).mono ?_;rintro e w3 ⟨rfl,D,t⟩;clear mL N mS J M P));go_roundw
      case rel=> exact ⟨f,Q1m d q f,rfl,by omega,by rw [Q0u];exact O.out,Brd.swap (h.out.drewN _) D t,U.out,V.out,T.out,Q0G H.out (Q0G (Q1p wr _ _) t)⟩
      case measure=> simp [intOf];omega
     ·rw [Q0K (b f (by omega)) (b q (by omega)),decide_eq_false hlt] at s
      have E:=Q01 s;have L:=Q01 (Q26 i (fun x G h2 F=> by have:=a x G h2 F;omega));clear s i hlt a u y v A;go_wp2_with (first|(go_at_call_of 215 (Value.int .i64 (q:Int));refine (E.out _ (by first|exact h.out|exact h.out.drewN _)).mono ?_;rintro e X ⟨rfl,I,rfl⟩)|(go_at_call 215;refine (Y.out _ (by first|exact h.out|exact h.out.drewN _)).mono ?_;rintro e w1 ⟨rfl,m1,rfl⟩));go_ret;exact ⟨⟨_,rfl⟩,d,h.out.drewN _,L.out,j,b,Q0G H.out (Q1p wr _ _)⟩
   ·have ad:¬(p:Int) < (n:Int):=by omega
    have a:∀x,1≤x→x < n→(x - 1) / 2=q→fr d f≤fr d x:=fun x G h2 F=> by rcases (show x=f by omega) with rfl;omega
    have s:=fun W (C:Brd k g c W d)=> Q3I (some ⟨g,0,none⟩) c d f q W W.heap.size C.row.rd (by omega) (by omega) (by omega)
    by_cases hlt:fr d f < fr d q
    ·rw [Q0K (b f (by omega)) (b q (by omega)),decide_eq_true hlt] at s
     have E:=Q01 s;have HS:=Q01 (fun W (C:Brd k g c W d)=> Q3J (k+1) g c d q f W C.row (by omega) (by omega) (by omega));have U:=Q01 (Q2W i (by omega) (by omega) (by omega) (by omega) hlt a);have V:=Q01 (Same.trans j (swapD_same (l:=d) q f n (by omega) (by omega) (by omega)));have T:=Q01 (Q2b q f (by omega) (by omega) b);clear s i j b hlt a u y v A
     go_wp2_with (first|(go_at_call_of 215 (Value.int .i64 (q:Int));refine (E.out _ (by first|exact h.out|exact h.out.drewN _)).mono ?_;rintro e X ⟨rfl,I,rfl⟩)|(go_at_call 218;refine (HS.out _ (by first|exact h.out|exact h.out.drewN _|exact (h.out.drewN _).drewN _)).mono ?_;rintro e w3 ⟨rfl,D,t⟩;clear mL N mS J M P));go_roundw
     case rel=> exact ⟨f,Q1m d q f,rfl,by omega,by rw [Q0u];exact O.out,Brd.swap (h.out.drewN I) D t,U.out,V.out,T.out,Q0G H.out (Q0G (Q1p wr _ _) t)⟩
     case measure=> simp [intOf];omega
    ·rw [Q0K (b f (by omega)) (b q (by omega)),decide_eq_false hlt] at s
     have E:=Q01 s;have L:=Q01 (Q26 i (fun x G h2 F=> by have:=a x G h2 F;omega));clear s i hlt a u y v A;go_wp2_with (first|(go_at_call_of 215 (Value.int .i64 (q:Int));refine (E.out _ (by first|exact h.out|exact h.out.drewN _)).mono ?_;rintro e X ⟨rfl,I,rfl⟩));go_ret;exact ⟨⟨_,rfl⟩,d,h.out.drewN I,L.out,j,b,Q0G H.out (Q1p wr _ _)⟩
  ·have ac:(n:Int)≤(f:Int):=by omega
   have L:=Q01 (Q26 i (fun x G h2 F=> by omega));clear i u y v A;go_wp2;go_ret;exact ⟨⟨_,rfl⟩,d,h.out,L.out,j,b,H.out⟩
end Go.Proofs.YtpneolgdghbinaaGreat
