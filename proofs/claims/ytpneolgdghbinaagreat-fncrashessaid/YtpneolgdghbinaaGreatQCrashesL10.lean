/- Several texts in one: SBacks2, IntsA, Ints, SMoved, PlaceMath, SCmd, LCmds, ShJ, SSame. -/
import Derived.Test.YtpneolgdghbinaaGreatQCrashesL04
import Derived.Test.YtpneolgdghbinaaGreatQCrashesL09
namespace Go.Proofs.YtpneolgdghbinaaGreat
open Go.ChangeShapes Go.WideShapes Go.ChangeAt Go.RowKit Go.Joins
set_option linter.unusedVariables false
set_option linter.unusedSimpArgs false
set_option maxRecDepth 100000
set_option maxHeartbeats 40000000
theorem QgH (i g:Int):Q3K i g=((decide (0<=i) && decide (i < 6)) && (decide (1<=g) && decide (g<=100))):=by simp[Q3K,Bool.and_assoc]
theorem Q3A (n:Int) (w:World):Calls Tryz.prog 61 #[.int .i64 n] w fun e a=>e=.returned (.bool (decide (0<=n) && decide (n < 6)))/\w=a:=by
 go_enter Tryz.func61,Tryz.ntmps61;go_wp2
 all_goals go_ret
 all_goals refine⟨?_,rfl⟩
 all_goals first|(simp[*];done)|(simp;omega)
theorem Q6t (n:Int) (w:World):Calls Tryz.prog 122 #[.int .i64 n] w fun e a=>e=.returned (.bool (decide (1<=n) && decide (n<=100)))/\w=a:=by
 go_enter Tryz.func122,Tryz.ntmps122;go_wp2
 all_goals go_ret
 all_goals refine⟨?_,rfl⟩
 all_goals first|(simp[*];done)|(simp;omega)
theorem Q2a (i g:Int) (d:Bool) (w:World):Calls Tryz.prog 186 #[back i g d] w fun e c=>e=.returned (.bool (Q3K i g))/\Below w.heap.size w c:=by
 have a:Below w.heap.size w w:=KBq;rw[QgH]
 cases hi:(decide (0<=i) && decide (i < 6))with
 |false=>
  go_enter Tryz.func186,Tryz.ntmps186;go_wp2_with (first|(go_at_call 61;refine(Q3A i _).mono ?_;rw[hi];rintro e b ⟨rfl,rfl⟩));go_ret;exact⟨rfl,by(repeat (first|with_reducible (first|exact a|exact KBq|refine KHq ?_|refine below_drewN ?_ _|refine KOq ?_ ?_ _|refine KNq ?_ ?_ _)|(focus (simp;first|done|omega))|omega))⟩
 |true=>
  generalize hg:(decide (1<=g) && decide (g<=100))=r;go_enter Tryz.func186,Tryz.ntmps186;go_wp2_with (first|(go_at_call 61;refine(Q3A i _).mono ?_;rw[hi];rintro e b ⟨rfl,rfl⟩)|(go_at_call 122;refine(Q6t g _).mono ?_;rw[hg];rintro e b ⟨rfl,rfl⟩));go_ret;exact⟨rfl,by(repeat (first|with_reducible (first|exact a|exact KBq|refine KHq ?_|refine below_drewN ?_ _|refine KOq ?_ ?_ _|refine KNq ?_ ?_ _)|(focus (simp;first|done|omega))|omega))⟩
theorem Qj1 (w:World) (x y z:Value) (t:TypeId):(w.alloc (.cells #[x,y,z] t)).cell? ⟨w.heap.size,0,none⟩=some x/\(w.alloc (.cells #[x,y,z] t)).cell? ⟨w.heap.size,1,none⟩=some y/\(w.alloc (.cells #[x,y,z] t)).cell? ⟨w.heap.size,2,none⟩=some z:=by simp
theorem Qft (w:World) (o:Obj) {b off:Nat} {u:Value} (h:w.cell? ⟨b,off,none⟩=some u) (a:b < w.heap.size):(w.alloc o).cell? ⟨b,off,none⟩=some u:=
 ((KOq KBq (Kaq _) o).cell (p:=⟨b,off,none⟩) a).trans h
theorem Q2Q (o:Option Addr) (cap:Nat) (l:List Bk) (w:World) (M:RdK w.heap.size w o l) (O:l.length<=1048576):
  Calls Tryz.prog 175 #[.slice o l.length cap] w fun e Y=>e=.returned (.bool (Q0b l))/\Below w.heap.size w Y:=by
 go_enter Tryz.func175,Tryz.ntmps175;go_wp2
 go_loopw [2,7] (fun rv i wr=> ∃k:Nat,k<=l.length/\i=.int .i64 k/\rv=.bool false/\Qir l k/\Below w.heap.size w wr)
  (fun _ i _=>l.length - (intOf i).toNat)
 case atStart=>exact⟨0,Kcq _,rfl,rfl,fun i hi=>absurd hi (KMq _),KBq⟩
 case round=>
  obtain⟨k,hk,rfl,rfl,B,g⟩:=hrel
  by_cases hlt:k < l.length
  ·rcases M with M|⟨b,off,rfl,n,a⟩
   ·subst M;simp at hlt
   obtain⟨x,y,z,p⟩:∃x y z,l.getD k (0,0,false)=(x,y,z):=⟨_,_,_,rfl⟩;have c:=RdL.back (C:=w.heap.size) a k hlt;rw[p]at c;have u:=bKq0v0v0 g c.1 n;have v:=bKq0v0v0 g c.2.1 n;have A:=bKq0v0v0 g c.2.2 n;have F:=Kbq n g.size;have J:=Q02 g;have t:=Q02 B
   have i1:(k:Int) < (l.length:Int):=by omega
   clear g B c;obtain⟨G,H,I⟩:=Qj1 wr (.int .i64 x) (.int .i64 y) (.bool z) 119;have r:Hid (Below w.heap.size w (wr.alloc (Obj.cells #[Value.int IntKind.i64 x,Value.int IntKind.i64 y,Value.bool z] 119))):=J.out.alloc J.out.size _
   have hs:wr.heap.size < (wr.alloc (Obj.cells #[Value.int IntKind.i64 x,Value.int IntKind.i64 y,Value.bool z] 119)).heap.size:=by simp
   rcases k with _|j
   ·have m:=Q02 (Qfl p)
    clear a p;simp only[Nat.zero_mul,Nat.add_zero]at u v A;go_wp2;generalize wr.alloc (Obj.cells #[Value.int IntKind.i64 x,Value.int IntKind.i64 y,Value.bool z] 119)=w0 at *;have U:=Grown.cell G hs;have V:=Grown.cell H hs;have X:=Grown.cell I hs;clear u v A G H I
    cases hbk:Q3K x y with
    |false=>
     have D:=Q02 (Q58 hlt (m.out.trans hbk));clear m t
     (refine Q09 (by kernel_rfl) (by kernel_rfl) ?_;intro h;(repeat (go_big_quiet_step ((go_at_call 186;exact Q1w _ (hbk ▸ Q2a x y z _)))));(with_reducible refine wpQuiet_nil ?_);intro _ f;obtain⟨s,d⟩:=f;subst d)
     go_wp2;go_ret;exact⟨Q08 D.out,r.out.trans (s.b.mono r.out.size)⟩
    |true=>
     have L:=Q02 (Qa0 t.out (m.out.trans hbk));clear m t
     (refine Q09 (by kernel_rfl) (by kernel_rfl) ?_;intro h;(repeat (go_big_quiet_step ((go_at_call 186;exact Q1w _ (hbk ▸ Q2a x y z _)))));(with_reducible refine wpQuiet_nil ?_);intro _ f;obtain⟨s,d⟩:=f;subst d)
     go_wp2;go_roundw
     case rel=>exact⟨1,by omega,by go_num,rfl,L.out,r.out.trans (s.b.mono r.out.size)⟩
     case measure=>simp[intOf];omega
   ·obtain⟨R,y',z',q⟩:∃x y z,l.getD j (0,0,false)=(x,y,z):=⟨_,_,_,rfl⟩
    have c:=RdL.back (C:=w.heap.size) a j (by omega);rw[q]at c;have E:=bKq0v0v0 J.out c.1 n;have P:=Qft wr (Obj.cells #[Value.int IntKind.i64 x,Value.int IntKind.i64 y,Value.bool z] 119) E F;have m:=Q02 (Qen p q)
    have i2:(j:Int) < (l.length:Int):=by omega
    have i3:0 < (j:Int)+1:=by omega
    clear a p q c E;have N:b < (wr.alloc (Obj.cells #[Value.int IntKind.i64 x,Value.int IntKind.i64 y,Value.bool z] 119)).heap.size:=Nat.lt_trans F hs;go_wp2;generalize wr.alloc (Obj.cells #[Value.int IntKind.i64 x,Value.int IntKind.i64 y,Value.bool z] 119)=w0 at *;have U:=Grown.cell G hs;have V:=Grown.cell H hs;have X:=Grown.cell I hs;have g3:=Grown.cell P N;clear u v A G H I P
    cases hbk:Q3K x y with
    |false=>
     have D:=Q02 (Q58 hlt (m.out.trans (by rw[hbk];rfl)));clear m t
     (refine Q09 (by kernel_rfl) (by kernel_rfl) ?_;intro h;(repeat (go_big_quiet_step ((go_at_call 186;exact Q1w _ (hbk ▸ Q2a x y z _)))));(with_reducible refine wpQuiet_nil ?_);intro _ f;obtain⟨s,d⟩:=f;subst d)
     go_wp2;go_ret;exact⟨Q08 D.out,r.out.trans (s.b.mono r.out.size)⟩
    |true=>
     by_cases h5:x<=R
     ·have D:=Q02 (Q58 hlt (m.out.trans (by simp[hbk];omega)))
      clear m t
      (refine Q09 (by kernel_rfl) (by kernel_rfl) ?_;intro h;(repeat (go_big_quiet_step ((go_at_call 186;exact Q1w _ (hbk ▸ Q2a x y z _)))));(with_reducible refine wpQuiet_nil ?_);intro _ f;obtain⟨s,d⟩:=f;subst d)
      go_wp2;go_ret;exact⟨Q08 D.out,r.out.trans (s.b.mono r.out.size)⟩
     ·have Z:decide (x<=R)=false:=decide_eq_false h5
      have L:=Q02 (Qa0 t.out (m.out.trans (by simp[hbk];omega)));clear m t
      (refine Q09 (by kernel_rfl) (by kernel_rfl) ?_;intro h;(repeat (go_big_quiet_step ((go_at_call 186;exact Q1w _ (hbk ▸ Q2a x y z _)))));(with_reducible refine wpQuiet_nil ?_);intro _ f;obtain⟨s,d⟩:=f;subst d)
      go_wp2;go_roundw
      case rel=>exact⟨j+1+1,by omega,by go_num,rfl,L.out,r.out.trans (s.b.mono r.out.size)⟩
      case measure=>simp[intOf];omega
  ·have e:k=l.length:=by omega
   subst e;have T:=Q02 (Q1k.2 B).symm;go_wp2;go_ret;exact⟨Q08 T.out,g⟩
def Q2m:Lay Int:=⟨1,fun a=> [.int .i64 a],0,fun _=>rfl⟩
abbrev RdI:=RdL Q2m
abbrev Q9U:=ownL Q2m 3
theorem RdL.int {w:World} {b off:Nat} {l:List Int} (h:∀i,i < l.length->∀j,j < Q2m.k->w.cell? ⟨b,off+i * Q2m.k+j,none⟩=(Q2m.cs (l.getD i Q2m.d))[j]?) (i:Nat) (hi:i < l.length):
  w.cell? ⟨b,off+i,none⟩=some (.int .i64 (l.getD i 0)):=by
 have:=h i hi 0 (by decide);rw[show Q2m.k=1 from rfl,Nat.mul_one,Nat.add_zero]at this;exact this
theorem Qbl:(Tryz.prog.info? 3).map (fun i=>(i.zero,i.size,i.bytes))=some (some (.int .i64 0),1,8):=by kernel_rfl
abbrev Hd:=Option Addr × Nat × Nat
def Q0E:Lay Hd:=⟨1,fun a=> [.slice a.1 a.2.1 a.2.2],(none,0,0),fun _=>rfl⟩
theorem RdL.head {w:World} {b off:Nat} {l:List Hd} (h:∀i,i < l.length->∀j,j < Q0E.k->w.cell? ⟨b,off+i * Q0E.k+j,none⟩=(Q0E.cs (l.getD i Q0E.d))[j]?) (i:Nat) (hi:i < l.length):
  w.cell? ⟨b,off+i,none⟩=some (.slice (l.getD i (none,0,0)).1 (l.getD i (none,0,0)).2.1 (l.getD i (none,0,0)).2.2):=by
 have:=h i hi 0 (by decide);rw[show Q0E.k=1 from rfl,Nat.mul_one,Nat.add_zero]at this;exact this
def RdLo {α:Type} (L:Lay α) (lo C:Nat) (w:World) (o:Option Addr) (l:List α):Prop:=
 l=[]\/∃b off,o=some ⟨b,off,none⟩/\lo<=b/\b < C/\∀i,i < l.length->∀j,j < L.k->w.cell? ⟨b,off+i * L.k+j,none⟩=(L.cs (l.getD i L.d))[j]?
theorem RdLo.rd {α:Type} {L:Lay α} {lo C:Nat} {w:World} {o:Option Addr} {l:List α} (h:RdLo L lo C w o l):RdL L C w o l:=by
 rcases h with h|⟨b,off,c,_,a,r⟩
 ·exact .inl h
 ·exact .inr ⟨b,off,c,a,r⟩
def RdLL (C:Nat) (w:World) (o:Option Addr) (ll:List (List Int)):Prop:=
 ∃hs:List Hd,hs.length=ll.length/\RdL Q0E C w o hs/\∀i,i < ll.length->(hs.getD i (none,0,0)).2.1=(ll.getD i []).length/\RdI C w (hs.getD i (none,0,0)).1 (ll.getD i [])
theorem RdLL.kept {C D:Nat} {w d:World} {o:Option Addr} {ll:List (List Int)} (h:RdLL C w o ll) (a:Below D w d) (b:C<=D):RdLL C d o ll:=by
 obtain⟨hs,f,g,c⟩:=h;exact⟨hs,f,g.kept a b,fun i hi=>⟨(c i hi).1,(c i hi).2.kept a b⟩⟩
theorem RdLL.le {C D:Nat} {w:World} {o:Option Addr} {ll:List (List Int)} (h:RdLL C w o ll) (a:C<=D):RdLL D w o ll:=by
 obtain⟨hs,c,d,b⟩:=h;exact⟨hs,c,d.le a,fun i hi=>⟨(b i hi).1,(b i hi).2.le a⟩⟩
theorem RdLL.at {C:Nat} {w:World} {o:Option Addr} {ll:List (List Int)} (h:RdLL C w o ll) (c:C<=w.heap.size) (i:Nat) (hi:i < ll.length):
  ∃b off f g,o=some ⟨b,off,none⟩/\b < w.heap.size/\w.cell? ⟨b,off+i,none⟩=some (.slice f (ll.getD i []).length g)/\RdI w.heap.size w f (ll.getD i []):=by
 obtain⟨hs,k,a,d⟩:=h
 rcases a with a|⟨b,off,l,j,r⟩
 ·subst a;simp at k;omega
 ·have:=RdL.head r i (by omega)
  rw[(d i hi).1]at this;exact⟨b,off,_,_,l,Kbq j c,this,(d i hi).2.le c⟩
theorem Q6W:(Tryz.prog.info? 47).map (fun i=>(i.zero,i.size,i.bytes))=some (some (.slice none 0 0),1,24):=by kernel_rfl
def Q0R (aa bb:List (List Int)):Nat->Int
 |0=> 0
 |k+1=>Q0R aa bb k+(if aa.getD k []=bb.getD k []then 0 else 1)
theorem Q4z (aa bb:List (List Int)):∀k,0<=Q0R aa bb k/\Q0R aa bb k<=k
 |0=>⟨Int.le_refl _,Int.le_refl _⟩
 |k+1=>by have:=Q4z aa bb k;unfold Q0R;split <;> omega
def Q10 (aa bb:List (List Int)):Int:=if aa.length=8/\bb.length=8 then Q0R aa bb 8 else -1
theorem Qae {aa bb:List (List Int)} (h:¬(aa.length=8/\bb.length=8)): -1=Q10 aa bb:=by rw[Q10,if_neg h]
theorem Q38 {aa bb:List (List Int)} {k:Nat} {ra rb:List Int} (h1:aa.getD k []=ra) (h2:bb.getD k []=rb) (h:ra=rb):Q0R aa bb k=Q0R aa bb (k+1):=by
 unfold Q0R;rw[h1,h2,if_pos h];cases k <;> simp[Q0R]
theorem Q4e {aa bb:List (List Int)} {k:Nat} {a b:List Int} (c:aa.getD k []=a) (h2:bb.getD k []=b) (h:a≠b):Q0R aa bb k+1=Q0R aa bb (k+1):=by
 rw[show Q0R aa bb (k+1)=Q0R aa bb k+(if aa.getD k []=bb.getD k []then 0 else 1)from rfl,c,h2,if_neg h]
theorem Q85 (C D:Option Addr) (H c2:Nat) (a l2:List Int) (w:World) (t:RdI w.heap.size w C a) (h2:RdI w.heap.size w D l2) (N:a.length<=1048576) (O:l2.length<=1048576):
  Calls Tryz.prog 185 #[.slice C a.length H,.slice D l2.length c2] w fun e P=>e=.returned (.bool (decide (a=l2)))/\Below w.heap.size w P:=by
 by_cases hlen:a.length=l2.length
 ·have z:((a.length:Int) !=(l2.length:Int))=false:=by simp[hlen]
  have R:=Q02 hlen
  have n:a.length<=l2.length:=by omega
  have M:l2.length<=a.length:=by omega
  clear hlen;go_enter Tryz.func185,Tryz.ntmps185;go_wp2
  go_loopw [4,13] (fun rv i wr=> ∃k:Nat,k<=a.length/\i=.int .i64 k/\rv=.bool false/\a.take k=l2.take k/\Below w.heap.size w wr)
   (fun _ i _=>a.length - (intOf i).toNat)
  case atStart=>exact⟨0,Kcq _,rfl,rfl,rfl,KBq⟩
  case round=>
   obtain⟨k,T,rfl,rfl,f,d⟩:=hrel;have G:=Q02 f
   by_cases hlt:k < a.length
   ·rcases t with t|⟨A,j,rfl,u,b⟩
    ·subst t;simp at hlt
    rcases h2 with h2|⟨B,l,rfl,v,c⟩
    ·subst h2;simp at n;simp[n]at hlt
    have g:k < l2.length:=by omega
    have J:wr.cell? ⟨A,j+k,none⟩=some (.int .i64 (a.getD k 0)):=(d.cell (p:=⟨A,j+k,none⟩) u).trans (RdL.int b k hlt);have L:wr.cell? ⟨B,l+k,none⟩=some (.int .i64 (l2.getD k 0)):=(d.cell (p:=⟨B,l+k,none⟩) v).trans (RdL.int c k g);have q:=Q02 d;have E:=Q02 (Q2h a k hlt);have F:=Q02 (Q2h l2 k g)
    have m:Hid (a=l2->a.getD k 0=l2.getD k 0):=fun h=>by rw[h]
    clear b c
    have U:(k:Int) < (a.length:Int):=by omega
    have V:(k:Int) < (l2.length:Int):=by omega
    generalize a.getD k 0=x at *;generalize l2.getD k 0=y at *;clear f d
    by_cases hxy:x=y
    ·have I:(x !=y)=false:=by simp[hxy]
     have s:=Q02 hxy;clear hxy m;go_wp2
     go_quiet (fail)
     go_wp2;go_roundw
     case rel=>
      refine⟨k+1,by omega,by go_num,rfl, ?_, ?_⟩
      ·rw[E.out,F.out,G.out,s.out]
      ·exact below_drewN q.out _
     case measure=>simp[intOf];omega
    ·have I:(x !=y)=true:=by simp[hxy]
     have s:Hid (a≠l2):=fun h=>hxy (m.out h)
     clear hxy m E F;go_wp2
     go_quiet (fail)
     go_wp2;go_ret;exact⟨Q08 (decide_eq_false s.out).symm,below_drewN q.out _⟩
   ·have e:a=l2:=by
     have:=f;rw[List.take_of_length_le (by omega),List.take_of_length_le (by omega)]at this;exact this
    have r:=Q02 e;have q:=Q02 d;clear e f d;go_wp2;go_ret;exact⟨Q08 (decide_eq_true r.out).symm,q.out⟩
 ·have z:((a.length:Int) !=(l2.length:Int))=true:=by simp;omega
  have r:Hid (a≠l2):=fun h=>hlen (by rw[h])
  go_enter Tryz.func185,Tryz.ntmps185;go_wp2;go_ret;exact⟨Q08 (decide_eq_false r.out).symm,KBq⟩
theorem Q9B (N O:Option Addr) (X Y:Nat) (aa bb:List (List Int)) (w:World) (G:RdLL w.heap.size w N aa) (H:RdLL w.heap.size w O bb) (la:aa.length<=1048576) (lb:bb.length<=1048576)
  (P:∀i,i < aa.length->(aa.getD i []).length<=1048576) (R:∀i,i < bb.length->(bb.getD i []).length<=1048576):
  Calls Tryz.prog 173 #[.slice N aa.length X,.slice O bb.length Y] w fun e w'=>e=.returned (.int .i64 (Q10 aa bb))/\Below w.heap.size w w':=by
 by_cases h8:aa.length=8/\bb.length=8
 ·have T:=Q02 (show Q0R aa bb 8=Q10 aa bb by rw[Q10,if_pos h8])
  obtain⟨E,F⟩:=h8;have r:=Q02 E;have s:=Q02 F;go_enter Tryz.func173,Tryz.ntmps173;go_wp2;clear E F
  go_loopw [5,18] (fun n i wr=> ∃k:Nat,k<=8/\i=.int .i64 k/\n=.int .i64 (Q0R aa bb k)/\Below w.heap.size w wr)
   (fun _ i _=> 8 - (intOf i).toNat)
  case atStart=>exact⟨0,Kcq _,rfl,rfl,KBq⟩
  case round=>
   obtain⟨k,hk,rfl,rfl,a⟩:=hrel;have Z:=Q4z aa bb k
   by_cases hlt:k < 8
   ·have L:k < aa.length:=by rw[r.out];exact hlt
    have M:k < bb.length:=by rw[s.out];exact hlt
    have j1:(k:Int) < (aa.length:Int):=by omega
    have j2:(k:Int) < (bb.length:Int):=by omega
    obtain⟨U,j,B,u,rfl,x,f,c⟩:=G.at (Kaq _) k L;obtain⟨V,l,C,v,rfl,y,g,d⟩:=H.at (Kaq _) k M;have z:=P k L;have A:=R k M;have I:=(a.cell (p:=⟨U,j+k,none⟩) x).trans f;have J:=(a.cell (p:=⟨V,l+k,none⟩) y).trans g;replace c:=(c.kept a (Kaq _)).le a.size;replace d:=(d.kept a (Kaq _)).le a.size;have m:=Q02 a;clear f g P R G H a;generalize hra:aa.getD k []=ra at *;generalize hrb:bb.getD k []=rb at *;have q:=Q85 B C u v ra rb wr c d z A;clear c d
    by_cases hab:ra=rb
    ·have t:=Q02 (Q38 hra hrb hab)
     rw[decide_eq_true hab]at q;clear hra hrb hab;go_wp2_with fail;refine q.mono ?_;rintro e w2 ⟨rfl,b⟩;go_wp2;go_roundw
     case rel=>exact⟨k+1,by omega,by go_num,by rw[t.out],m.out.trans (b.mono m.out.size)⟩
     case measure=>simp[intOf];omega
    ·have t:=Q02 (Q4e hra hrb hab)
     rw[decide_eq_false hab]at q;clear hra hrb hab;go_wp2_with fail;refine q.mono ?_;rintro e w2 ⟨rfl,b⟩;go_wp2;go_roundw
     case rel=>exact⟨k+1,by omega,by go_num,by rw[<-t.out],m.out.trans (b.mono m.out.size)⟩
     case measure=>simp[intOf];omega
   ·have e:k=8:=by omega
    subst e;go_wp2;go_ret;exact⟨Q0W T.out,a⟩
 ·have D:=Q02 (Qae h8)
  by_cases h1:aa.length=8
  ·have h2:¬bb.length=8:=fun h=>h8 ⟨h1,h⟩
   have n2:((bb.length:Int) !=8)=true:=by simp;omega
   go_enter Tryz.func173,Tryz.ntmps173;go_wp2;go_ret;exact⟨Q0W D.out,KBq⟩
  ·have n1:((aa.length:Int) !=8)=true:=by simp;omega
   go_enter Tryz.func173,Tryz.ntmps173;go_wp2;go_ret;exact⟨Q0W D.out,KBq⟩
theorem Q5K (oa ob:Option Addr) (ca cb:Nat) (aa bb:List (List Int)) (w:World) (hA:RdLL w.heap.size w oa aa) (hB:RdLL w.heap.size w ob bb) (la:aa.length<=1048576) (lb:bb.length<=1048576)
  (xa:∀i,i < aa.length->(aa.getD i []).length<=1048576) (xb:∀i,i < bb.length->(bb.getD i []).length<=1048576):
  Calls Tryz.prog 65 #[.slice oa aa.length ca,.slice ob bb.length cb] w fun e w'=>e=.returned (.int .i64 (Q10 aa bb))/\Below w.heap.size w w':=by
 by_cases h8:aa.length=8/\bb.length=8
 ·have HE:=Q02 (show Q0R aa bb 8=Q10 aa bb by rw[Q10,if_pos h8])
  obtain⟨Z,e2⟩:=h8;have L:=Q02 Z;have M:=Q02 e2;go_enter Tryz.func65,Tryz.ntmps65;go_wp2
  have ag:aa.length<=8:=by omega
  have ah:8<=aa.length:=by omega
  clear Z e2
  go_loopw [5,6] (fun n i wr=> ∃k:Nat,k<=8/\i=.int .i64 k/\n=.int .i64 (Q0R aa bb k)/\Below w.heap.size w wr)
   (fun _ i _=> 8 - (intOf i).toNat)
  case atStart=>exact⟨0,Kcq _,rfl,rfl,KBq⟩
  case round=>
   obtain⟨k,hk,rfl,rfl,g⟩:=hrel;have ad:=Q4z aa bb k
   by_cases hlt:k < 8
   ·have i1:k < aa.length:=by rw[L.out];exact hlt
    have i2:k < bb.length:=by rw[M.out];exact hlt
    have j1:(k:Int) < (aa.length:Int):=by omega
    have j2:(k:Int) < (bb.length:Int):=by omega
    obtain⟨N,l,ai,ab,rfl,z,a,C⟩:=hA.at (Kaq _) k i1;obtain⟨O,m,aj,ac,rfl,A,b,D⟩:=hB.at (Kaq _) k i2;have ae:=xa k i1;have af:=xb k i2;have H:=(g.cell (p:=⟨N,l+k,none⟩) z).trans a;have I:=(g.cell (p:=⟨O,m+k,none⟩) A).trans b;have V:=Q02 g;clear xa xb hA hB g;generalize hra:aa.getD k []=ra at *;generalize hrb:bb.getD k []=rb at *;have HS:=Q02 (Q38 hra hrb);have X:=Q02 (Q4e hra hrb);clear hra hrb;go_wp2
    go_quiet (fail)
    have u:Below w.heap.size w (wr.drewN nq):=below_drewN V.out _;have T:=(u.cell (p:=⟨N,l+k,none⟩) z).trans a;have U:=(u.cell (p:=⟨O,m+k,none⟩) A).trans b;clear V H I;generalize wr.drewN nq=wo at *;have J:=Q02 u;clear u;go_wp2
    go_loopw [7,8] (fun s j wi=> ∃(q:Nat) (t:Bool),q<=ra.length/\j=.int .i64 q/\s=.bool t/\(t=true↔ra.length=rb.length/\ra.take q=rb.take q)/\Below w.heap.size w wi)
     (fun _ j _=>ra.length - (intOf j).toNat)
    case atStart=>exact⟨0,_,Kcq _,rfl,rfl,by simp[Int.ofNat_inj],J.out⟩
    case round=>
     obtain⟨q,t,hq,rfl,rfl,ht,r⟩:=hrel;have v:=Q02 ht;have f:=Q02 r;have r1:=(r.cell (p:=⟨N,l+k,none⟩) z).trans a;have r2:=(r.cell (p:=⟨O,m+k,none⟩) A).trans b;clear ht r T U
     by_cases hql:q < ra.length
     ·cases t with
      |true=>
       obtain⟨Y,G⟩:=v.out.1 rfl
       have B:q < rb.length:=by omega
       have z1:(q:Int) < (ra.length:Int):=by omega
       have z2:(q:Int) < (rb.length:Int):=by omega
       have HL':=Q02 Y;have HTk':=Q02 G
       rcases C with C|⟨g1,f1,rfl,P,c⟩
       ·subst C;simp at hql
       rcases D with D|⟨g2,f2,rfl,R,d⟩
       ·subst D;simp at B
       have y1:wr.cell? ⟨g1,f1+q,none⟩=some (.int .i64 (ra.getD q 0)):=(f.out.cell (p:=⟨g1,f1+q,none⟩) P).trans (RdL.int c q hql);have y2:wr.cell? ⟨g2,f2+q,none⟩=some (.int .i64 (rb.getD q 0)):=(f.out.cell (p:=⟨g2,f2+q,none⟩) R).trans (RdL.int d q B);have t1:=Q02 (Q2h ra q hql);have t2:=Q02 (Q2h rb q B);clear c d v Y G a b;generalize ra.getD q 0=x at *;generalize rb.getD q 0=y at *;go_wp2
       go_quiet (fail)
       go_wp2;go_roundw
       case rel=>
        refine⟨q+1,_,by omega,by go_num,rfl, ?_,below_drewN f.out _⟩;rw[t1.out,t2.out,HTk'.out,List.append_cancel_left_eq];simp[HL'.out]
       case measure=>simp[intOf];omega
      |false=>
       have E:Hid (ra≠rb):=fun h=>by
        have:=v.out.2 ⟨by rw[h],by rw[h]⟩
        cases this
       have F:=Q02 (X.out E.out)
       have z1:(q:Int) < (ra.length:Int):=by omega
       clear v a b;go_wp2;go_roundw
       case rel=>exact⟨k+1,by omega,by go_num,by rw[<-F.out],f.out⟩
       case measure=>simp[intOf];omega
     ·have eq:q=ra.length:=by omega
      subst eq
      have z1:¬(ra.length:Int) < (ra.length:Int):=by omega
      cases t with
      |true=>
       have HY:Hid (ra=rb):=by
        obtain⟨h1,h2⟩:=v.out.1 rfl;rw[List.take_of_length_le (Kaq _),List.take_of_length_le (by omega)]at h2;exact h2
       have F:=Q02 (HS.out HY.out);clear v a b;go_wp2;go_roundw
       case rel=>exact⟨k+1,by omega,by go_num,by rw[F.out],f.out⟩
       case measure=>simp[intOf];omega
      |false=>
       have E:Hid (ra≠rb):=fun h=>by
        have:=v.out.2 ⟨by rw[h],by rw[h]⟩
        cases this
       have F:=Q02 (X.out E.out);clear v a b;go_wp2;go_roundw
       case rel=>exact⟨k+1,by omega,by go_num,by rw[<-F.out],f.out⟩
       case measure=>simp[intOf];omega
   ·have e:k=8:=by omega
    subst e
    have nl:¬(8:Int) < (aa.length:Int):=by omega
    go_wp2;go_ret;exact⟨Q0W HE.out,g⟩
 ·have E:=Q02 (Qae h8)
  by_cases h1:aa.length=8
  ·have h2:¬bb.length=8:=fun h=>h8 ⟨h1,h⟩
   have n2:((bb.length:Int) !=8)=true:=by simp;omega
   go_enter Tryz.func65,Tryz.ntmps65;go_wp2;go_ret;exact⟨Q0W E.out,KBq⟩
  ·have n1:((aa.length:Int) !=8)=true:=by simp;omega
   go_enter Tryz.func65,Tryz.ntmps65;go_wp2;go_ret;exact⟨Q0W E.out,KBq⟩
def Q0h (l:List Bk) (id:Int):Nat:=(l.takeWhile (fun b=>decide (b.1 < id))).length
theorem Q4k (l:List Bk) (id:Int):Q0h l id<=l.length:=by
 unfold Q0h;exact(List.takeWhile_sublist _).length_le
theorem Q7B:∀(l:List Bk) (id:Int) (k:Nat),k < Q0h l id->(l.getD k (0,0,false)).1 < id
 |[],id,k,h=>by simp[Q0h]at h
 |b::l,id,k,h=>by
  unfold Q0h at h;rw[List.takeWhile_cons]at h
  by_cases hb:b.1 < id
  ·simp[hb]at h
   cases k with
   |zero=>simpa using hb
   |succ k=>simpa using Q7B l id k (by unfold Q0h;omega)
  ·simp[hb]at h
theorem Q84:∀(l:List Bk) (id:Int),Q0h l id < l.length->¬(l.getD (Q0h l id) (0,0,false)).1 < id
 |[],id,h=>by simp at h
 |b::l,id,h=>by
  by_cases hb:b.1 < id
  ·have e:Q0h (b::l) id=Q0h l id+1:=by unfold Q0h;rw[List.takeWhile_cons];simp[hb]
   rw[e]at h ⊢
   simpa using Q84 l id (by simpa using h)
  ·have e:Q0h (b::l) id=0:=by unfold Q0h;rw[List.takeWhile_cons];simp[hb]
   rw[e]
   simpa using hb
theorem Q82 {l:List Bk} {id:Int} {k:Nat} (b:k<=l.length) (a:∀j,j < k->(l.getD j (0,0,false)).1 < id) (h2:k=l.length\/¬(l.getD k (0,0,false)).1 < id):Q0h l id=k:=by
 rcases Nat.lt_trichotomy (Q0h l id) k with h|h|h
 ·exact absurd (a _ h) (Q84 l id (by omega))
 ·exact h
 ·have:=Q7B l id k h
  have:=Q4k l id
  rcases h2 with h2|h2
  ·omega
  ·exact absurd ‹_› h2
def Q0A (l:List Bk) (id:Int):Bool:=decide (Q0h l id < l.length) && ((l.getD (Q0h l id) (0,0,false)).1==id)
def doL (l:List Bk) (k i g:Int):Option (List Bk):=
 if Q0A l i=(k==0)then none
 else some (
  if k=0 then l.take (Q0h l i)++(i,g,false)::l.drop (Q0h l i)
  else if k=1 then l.set (Q0h l i) (i,g,(l.getD (Q0h l i) (0,0,false)).2.2)
  else if k=2 then l.set (Q0h l i) (i,(l.getD (Q0h l i) (0,0,false)).2.1,true)
  else l.take (Q0h l i)++l.drop (Q0h l i+1))
theorem Q3G (o:Option Addr) (cap:Nat) (l:List Bk) (id:Int) (w:World) (t:RdK w.heap.size w o l) (F:l.length<=1048576):
  Calls Tryz.prog 159 #[.slice o l.length cap,.int .i64 id] w fun e B=>e=.returned (.tuple #[.int .i64 (Q0h l id),.bool (Q0A l id)])/\Below w.heap.size w B:=by
 go_enter Tryz.func159,Tryz.ntmps159;go_wp2
 go_loop [6] (fun av=> ∃k:Nat,k<=l.length/\av=.int .i64 k/\Hid (∀j,j < k->(l.getD j (0,0,false)).1 < id))
  (fun av=>l.length - (intOf av).toNat)
 case atStart=>exact⟨0,Kcq _,rfl,fun j v=>absurd v (KMq _)⟩
 case round=>
  obtain⟨k,E,rfl,m⟩:=hrel
  by_cases hlt:k < l.length
  ·rcases t with t|⟨b,off,rfl,u,a⟩
   ·subst t;simp at hlt
   obtain⟨x,y,z,c⟩:∃x y z,l.getD k (0,0,false)=(x,y,z):=⟨_,_,_,rfl⟩;have d:=(RdL.back (C:=w.heap.size) a k hlt).1;rw[c]at d;dsimp only at d
   have G:(k:Int) < (l.length:Int):=by omega
   by_cases hx:x < id
   ·have q:Hid (∀j,j < k+1->(l.getD j (0,0,false)).1 < id):=fun j v=>by
     rcases Nat.lt_succ_iff_lt_or_eq.1 v with h|h
     ·exact m.out j h
     ·rw[h,c];exact hx
    clear c a;go_wp2
    go_round
    case rel=>exact⟨k+1,by omega,by go_num,q⟩
    case measure=>simp[intOf];omega
   ·have f:Q0h l id=k:=Q82 (KIq hlt) m.out (.inr (by rw[c];exact hx))
    have s:=Q02 (show Q0A l id=(x==id)by unfold Q0A;rw[f,c];simp[hlt]);have r:=Q02 f;have D:=Grown.cell d u;clear c a f m;go_wp2
    (refine Q09 (by kernel_rfl) (by kernel_rfl) ?_;intro n;(repeat (go_big_quiet_step ((fail))));(with_reducible refine wpQuiet_nil ?_);intro _ i;obtain⟨A,g⟩:=i;subst g)
    have p:=Q02 A.b;go_wp2
    go_ret2
    exact⟨by rw[r.out,s.out];rfl,p.out⟩
  ·have e:k=l.length:=by omega
   have f:Q0h l id=l.length:=Q82 (Kaq _) (e ▸ m.out) (.inl rfl);have s:=Q02 (show Q0A l id=false by unfold Q0A;rw[f];simp);have r:=Q02 f;subst e;clear f m;go_wp2
   (refine Q09 (by kernel_rfl) (by kernel_rfl) ?_;intro n;(repeat (go_big_quiet_step ((fail))));(with_reducible refine wpQuiet_nil ?_);intro _ i;obtain⟨A,g⟩:=i;subst g)
   have p:=Q02 A.b;go_wp2
   go_ret2
   exact⟨by rw[r.out,s.out];rfl,p.out⟩
def Qdc (k i g:Int):Prop:=0<=k/\k<=3/\0<=i/\i < 6/\((k<=1/\1<=g/\g<=100)\/(2<=k/\g=0))
def Q0F (k i g:Int):Bool:=decide (0<=k) && decide (k<=3) && decide (0<=i) && decide (i < 6) && ((decide (k<=1) && decide (1<=g) && decide (g<=100))||(decide (2<=k) && decide (g=0)))
theorem Q8V {k i g:Int}:Q0F k i g=true↔Qdc k i g:=by simp[Q0F,Qdc,and_assoc]
abbrev cmd (k i g:Int):Value:=.agg #[.int .i64 k,.int .i64 i,.int .i64 g]
theorem Q8I {k i g:Int} {t:Bool} (h:t=true↔Qdc k i g):t=Q0F k i g:=by
 rw[Bool.eq_iff_iff,h,Q8V]
theorem Q6h (k i g:Int) (w:World):
  Calls Tryz.prog 94 #[cmd k i g] w fun e b=>e=.returned (.bool (Q0F k i g))/\Below w.heap.size w b:=by
 have a:Below w.heap.size w w:=KBq;go_enter Tryz.func94,Tryz.ntmps94;go_wp2
 all_goals go_ret
 all_goals refine⟨Q08 (Q8I ?_),by(repeat (first|with_reducible (first|exact a|exact KBq|refine KHq ?_|refine below_drewN ?_ _|refine KOq ?_ ?_ _|refine KNq ?_ ?_ _)|(focus (simp;first|done|omega))|omega))⟩
 all_goals (simp[Qdc];omega)
theorem Q3m (k i g:Int) (w:World):
  Calls Tryz.prog 73 #[cmd k i g] w fun e j=>e=.returned (.bool (Q0F k i g))/\Below w.heap.size w j:=by
 have h:Below w.heap.size w w:=KBq
 have a:=fun w=>Q3A i w
 have b:=fun w=>Q6t g w
 generalize hI:(decide (0<=i) && decide (i < 6))=I at a;generalize hG:(decide (1<=g) && decide (g<=100))=G at b;have d:=Q02 (show I=true↔0<=i/\i < 6 by rw[<-hI];simp);have c:=Q02 (show G=true↔1<=g/\g<=100 by rw[<-hG];simp);clear hI hG
 cases I <;> cases G
 all_goals (
  go_enter Tryz.func73,Tryz.ntmps73;go_wp2_with (first|(go_at_call 61;refine(a _).mono ?_;rintro e l ⟨rfl,rfl⟩)|(go_at_call 122;refine(b _).mono ?_;rintro e l ⟨rfl,rfl⟩))
  all_goals go_ret
  all_goals refine⟨Q08 (Q8I ?_),by(repeat (first|with_reducible (first|exact h|exact KBq|refine KHq ?_|refine below_drewN ?_ _|refine KOq ?_ ?_ _|refine KNq ?_ ?_ _)|(focus (simp;first|done|omega))|omega))⟩
  all_goals (have f:=d.out;have h2:=c.out;(try simp only[beq_iff_eq,beq_eq_false_iff_ne,ne_eq]at *);simp at f h2;simp[Qdc];try omega))
abbrev Cd:=Int × Int × Int
def Q3F:Lay Cd:=⟨3,fun a=> [.int .i64 a.1,.int .i64 a.2.1,.int .i64 a.2.2],(0,0,0),fun _=>rfl⟩
abbrev RdC:=RdL Q3F
abbrev QaU:=ownL Q3F 77
theorem RdL.cmd {C:Nat} {w:World} {b off:Nat} {l:List Cd} (h:∀i,i < l.length->∀j,j < Q3F.k->w.cell? ⟨b,off+i * Q3F.k+j,none⟩=(Q3F.cs (l.getD i Q3F.d))[j]?) (i:Nat) (hi:i < l.length):
  w.cell? ⟨b,off+i * 3,none⟩=some (.int .i64 (l.getD i (0,0,0)).1)/\w.cell? ⟨b,off+i * 3+1,none⟩=some (.int .i64 (l.getD i (0,0,0)).2.1)/\w.cell? ⟨b,off+i * 3+2,none⟩=some (.int .i64 (l.getD i (0,0,0)).2.2):=
 ⟨h i hi 0 (by decide),h i hi 1 (by decide),h i hi 2 (by decide)⟩
theorem QhI:(Tryz.prog.info? 77).map (fun i=>(i.zero,i.size,i.bytes))=some (some (.agg #[.int .i64 0,.int .i64 0,.int .i64 0]),3,24):=by kernel_rfl
structure Jm where
 key:Int
 l:List Cd
 safe:Int
abbrev jrn (k:Int) (v:Value) (s:Int):Value:=.agg #[.int .i64 k,v,.int .i64 s]
abbrev InC:=InL Q3F 77
def RdJm (C:Nat) (w:World) (v:Value) (m:Jm):Prop:=∃vl,v=jrn m.key vl m.safe/\RdV Q3F C w vl m.l
def InJm (lo hi:Nat) (w:World) (v:Value) (m:Jm):Prop:=∃vl,v=jrn m.key vl m.safe/\InC lo hi w vl m.l
theorem RdJm.kept {C D:Nat} {w w':World} {v:Value} {m:Jm} (h:RdJm C w v m) (hb:Below D w w') (hc:C<=D):RdJm C w' v m:=by
 obtain⟨vl,e,h1⟩:=h;exact⟨vl,e,h1.kept hb hc⟩
theorem RdJm.le {C D:Nat} {w:World} {v:Value} {m:Jm} (h:RdJm C w v m) (hc:C<=D):RdJm D w v m:=by
 obtain⟨vl,e,h1⟩:=h;exact⟨vl,e,h1.le hc⟩
theorem InJm.rd {lo hi:Nat} {w:World} {v:Value} {m:Jm} (h:InJm lo hi w v m):RdJm hi w v m:=by
 obtain⟨vl,e,h1⟩:=h;exact⟨vl,e,InL.rd (L:=Q3F) h1⟩
theorem InJm.step {a b lo hi:Nat} {w w':World} {v:Value} {m:Jm} (h:InJm a b w v m) (s:Stp lo hi w w') (hd:hi<=a\/b<=lo):InJm a b w' v m:=by
 obtain⟨vl,e,h1⟩:=h;exact⟨vl,e,InRow.step h1 s hd⟩
def capJm (v:Value):Prop:=∃k vl s,v=jrn k vl s/\Qi3 vl
theorem InJm.cap {lo hi:Nat} {w:World} {v:Value} {m:Jm} (h:InJm lo hi w v m):capJm v:=by
 obtain⟨vl,e,h1⟩:=h;exact⟨_,vl,_,e,InRow.cap h1⟩
theorem capJm.one {k s:Int} {o:Option Addr} {n c:Nat} (h:capJm (jrn k (.slice o n c) s)):o=none->c=0:=by
 obtain⟨d,g,f,e,b⟩:=h;injection e with e;simp at e;obtain⟨_,a,_⟩:=e
 exact fun h=>b n c (by rw[<-a,h])
def Q6L (m:Jm):Prop:=m.l.length<=1048576
theorem Qav (q r:Option Addr) (t c2:Nat) (l:List Int) (w:World) (g:RdI w.heap.size w q l) (h2:RdI w.heap.size w r l) (A:l.length<=1048576):
  Calls Tryz.prog 15 #[.slice q l.length t,.slice r l.length c2] w fun e y=>e=.returned (.bool true)/\Below w.heap.size w y:=by
 go_enter Tryz.func15,Tryz.ntmps15;go_wp2
 go_loopw [5] (fun i wr=> ∃k:Nat,k<=l.length/\i=.int .i64 k/\Below w.heap.size w wr)
  (fun i _=>l.length - (intOf i).toNat)
 case atStart=>exact⟨0,Kcq _,rfl,KBq⟩
 case round=>
  obtain⟨k,z,rfl,c⟩:=hrel
  by_cases hlt:k < l.length
  ·rcases g with g|⟨m,d,rfl,h,a⟩
   ·subst g;simp at hlt
   rcases h2 with h2|⟨n,f,rfl,j,b⟩
   ·subst h2;simp at hlt
   have u:wr.cell? ⟨m,d+k,none⟩=some (.int .i64 (l.getD k 0)):=(c.cell (p:=⟨m,d+k,none⟩) h).trans (RdL.int a k hlt);have v:wr.cell? ⟨n,f+k,none⟩=some (.int .i64 (l.getD k 0)):=(c.cell (p:=⟨n,f+k,none⟩) j).trans (RdL.int b k hlt);have s:=Q02 c;clear a b c
   have B:(k:Int) < (l.length:Int):=by omega
   generalize l.getD k 0=x at *;go_wp2
   go_quiet (fail)
   go_wp2;go_roundw
   case rel=>exact⟨k+1,by omega,by go_num,below_drewN s.out _⟩
   case measure=>simp[intOf];omega
  ·have e:k=l.length:=by omega
   subst e;go_wp2;go_ret;exact⟨rfl,c⟩
end Go.Proofs.YtpneolgdghbinaaGreat
