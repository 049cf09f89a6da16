/- Several texts in one: LSegs, LCarr. -/
import Derived.Deep.RegionHeld3
import Derived.Test.YteffhdcankkfkaaGreatQListed19
namespace Go.Proofs.YteffhdcankkfkaaGreat
open Go.ChangeShapes Go.WideShapes Go.ChangeAt Go.RowKit Go.Joins
set_option linter.unusedVariables false
set_option linter.unusedSimpArgs false
set_option maxRecDepth 100000
set_option maxHeartbeats 40000000
def Q4B (l:List (Int × Int)) (k:Nat):List (Int × Int):=l.take k++List.replicate (l.length - k) (0,0)
theorem Qa4 (l:List (Int × Int)) (k:Nat) (h:k<=l.length):(Q4B l k).length=l.length:=by simp[Q4B];omega
theorem Qd2 (l:List (Int × Int)):Q4B l 0=List.replicate l.length (0,0):=by simp[Q4B]
theorem QeK (l:List (Int × Int)):Q4B l l.length=l:=by simp[Q4B]
theorem QaC:∀(l:List (Int × Int)) (k:Nat) (p:Int × Int),((Q3Z l).set (k * 2) p.1).set (k * 2+1) p.2=Q3Z (l.set k p)
 |[],k,p=>by simp[Q3Z]
 |q::l,0,p=>by simp[Q3Z]
 |q::l,k+1,p=>by
  rw[show(k+1) * 2=k * 2+1+1 by omega];simp only[Q3Z,List.set_cons_succ];rw[QaC l k p]
theorem Qdn (l:List (Int × Int)) (k:Nat) (p:Int × Int):((Q2m l).set (k * 2) (.int .i64 p.1)).set (k * 2+1) (.int .i64 p.2)=Q2m (l.set k p):=by
 unfold Q2m;rw[<-List.map_set,<-List.map_set,QaC]
theorem QeW (l:List (Int × Int)) (k:Nat) (h:k < l.length):(Q4B l k).set k (l.getD k (0,0))=Q4B l (k+1):=by
 have a:l.length - k=(l.length - (k+1))+1:=by omega
 have b:(l.take k).length=k:=by simp;omega
 unfold Q4B;rw[a,List.replicate_succ,List.set_append_right _ _ (by omega),b,Nat.sub_self,List.set_cons_zero,Qdd l k h,List.append_assoc]
 rfl
theorem Q3z:∀n:Nat,Q3Z (List.replicate n (0,0))=List.replicate (n * 2) 0
 |0=>rfl
 |n+1=>by rw[List.replicate_succ,show(n+1) * 2=n * 2+1+1 by omega,List.replicate_succ,List.replicate_succ];simp[Q3Z,Q3z n]
theorem Q92 (n:Nat):(madeCells #[.int .i64 0,.int .i64 0] n).toList=List.replicate n (.int .i64 0):=by
 apply List.ext_getElem?;intro j
 by_cases hj:j < n
 ·have h2:j % 2=0\/j % 2=1:=by omega
  rcases h2 with h|h <;> simp[madeCells,hj,h]
 ·simp[madeCells,hj]
theorem QcI {w wr:World} {base g c:Nat} {l:List (Int × Int)} {k:Nat} {x y:Int} (b:l.getD k (0,0)=(x,y)) (i:k < l.length) (d:base<=g) (a:wr.ownsRow w.heap.size 136 2 (.slice (some ⟨g,0,none⟩) l.length c) l.length (Q2m (Q4B l k)))
  (f:Below base w wr):((wr.setCell ⟨g,k * 2,none⟩ (.int .i64 x)).setCell ⟨g,k * 2+1,none⟩ (.int .i64 y)).ownsRow w.heap.size 136 2 (.slice (some ⟨g,0,none⟩) l.length c) l.length (Q2m (Q4B l (k+1)))/\
   Below base w ((wr.setCell ⟨g,k * 2,none⟩ (.int .i64 x)).setCell ⟨g,k * 2+1,none⟩ (.int .i64 y)):=by
 have h:=((a.stored (k * 2) (.int .i64 x)).1.stored (k * 2+1) (.int .i64 y)).1;rw[Qdn _ k (x,y),<-b,QeW l k i]at h;exact⟨h,(f.setCell (p:=⟨g,k * 2,none⟩) d _).setCell (p:=⟨g,k * 2+1,none⟩) d _⟩
theorem Qd4 (o:Option Addr) (len cap:Nat) (n:Int) (w:World) (a:len<=maxLen) (c:0<=n) (d:n<=1048576):
  Calls Tryz.prog 195 #[.slice o len cap,.int .i64 n] w fun e b=>e=.returned (.int .i64 (if n - len < 0 then -1 else n - len))/\w=b:=by
 unfold maxLen at a
 by_cases h:n - len < 0
 ·rw[if_pos h]
  go_enter Tryz.func195,Tryz.ntmps195;go_wp2;go_ret;exact⟨rfl,rfl⟩
 ·rw[if_neg h]
  go_enter Tryz.func195,Tryz.ntmps195;go_wp2;go_ret;exact⟨rfl,rfl⟩
theorem QcZ (o:Option Addr) (cap:Nat) (l:List (Int × Int)) (w:World) (A:RdG w o l) (J:l.length<=1048576):
  Calls Tryz.prog 201 #[.slice o l.length cap] w fun e L=> ∃g,e=.returned (.slice (some ⟨g,0,none⟩) l.length l.length)/\ownG L w.heap.size (.slice (some ⟨g,0,none⟩) l.length l.length) l/\Below w.heap.size w L:=by
 obtain⟨V,hi,D,E,F⟩:=info_parts QdV;have I:Below w.heap.size w w:=KBq;go_enter Tryz.func201,Tryz.ntmps201;go_wp2_with (at_make;refine wpList_make_full _ rfl _ _ 109 rfl w.heap.size 136 V (.agg #[.int .i64 0,.int .i64 0]) 2 Tryz.underlying109 hi D E _ _ _ _ l.length rfl rfl rfl rfl ?b2 ?b3 ?b4 ?_)
 case b2=>rw[F];omega
 case b3=>unfold maxLen;omega
 case b4=>simp
 intro M c j;have t:Below w.heap.size w M:=I.grown j (Kaq _) (fun k h=>by cases h)
 have m:M.ownsRow w.heap.size 136 2 (.slice (some ⟨w.heap.size,0,none⟩) l.length l.length) l.length (Q2m (Q4B l 0)):=by
  rw[Qd2,Q2m,Q3z];simpa[Q92,Value.cells]using c
 clear c j I;go_wp2
 go_loopw [4] (fun i wr=> ∃k:Nat,k<=l.length/\i=.int .i64 k/\wr.ownsRow w.heap.size 136 2 (.slice (some ⟨w.heap.size,0,none⟩) l.length l.length) l.length (Q2m (Q4B l k))/\Below w.heap.size w wr)
  (fun i _=>l.length - (intOf i).toNat)
 case atStart=>exact⟨0,Kcq _,rfl,m,t⟩
 case round=>
  obtain⟨k,P,rfl,c,d⟩:=hrel
  by_cases hlt:k < l.length
  ·rcases A with A|⟨b,X,rfl,v,f⟩
   ·subst A;simp at hlt
   obtain⟨x,y,s⟩:∃x y,l.getD k (0,0)=(x,y):=⟨_,_,rfl⟩;have n:=f k hlt;rw[s]at n;have B:=bKq0v0v0 d n.1 v;have C:=bKq0v0v0 d n.2 v;have Y:=Q00 (hlt);clear f n;go_wp2_with fail;refine(Qf0 _ _ _).mono ?_;rintro e G ⟨rfl,r⟩;have z:Below w.heap.size w G:=d.trans (r.mono d.size);have a:=Q0a c r
   have R:(Q2m (Q4B l k)).length=l.length * 2:=by simp[Q2m,Q5C,Qa4 l k P]
   have p:=a.cellAt (k * 2) (by omega);have q:=a.cellAt (k * 2+1) (by omega);have N:=a.frozenAt (k * 2);have O:=a.frozenAt (k * 2+1);obtain⟨u0,T⟩:∃u,G.cell? ⟨w.heap.size,k * 2,none⟩=some u:=⟨_,p.trans (KGq (by omega))⟩;obtain⟨u1,U⟩:∃u,G.cell? ⟨w.heap.size,k * 2+1,none⟩=some u:=⟨_,q.trans (KGq (by omega))⟩;have H:=Q00 (QcI (g:=w.heap.size) s hlt (Kaq _) a z);clear s c d p q t m a B C r;go_wp2;go_roundw
   case rel=>exact⟨k+1,by omega,by go_num,H.out.1,H.out.2⟩
   case measure=>simp[intOf];omega
  ·have e:k=l.length:=by omega
   subst e;rw[QeK]at c;go_wp2;go_ret;exact⟨w.heap.size,rfl,c,d⟩
theorem QbP (A B:Option Addr) (C D:Nat) (l:List (Int × Int)) (w:World) (r:RdG w A l) (h2:RdG w B l) (G:l.length<=1048576):
  Calls Tryz.prog 190 #[.slice A l.length C,.slice B l.length D] w fun e w'=>e=.returned (.bool true)/\Below w.heap.size w w':=by
 go_enter Tryz.func190,Tryz.ntmps190;go_wp2
 go_loopw [5] (fun i wr=> ∃k:Nat,k<=l.length/\i=.int .i64 k/\Below w.heap.size w wr)
  (fun i _=>l.length - (intOf i).toNat)
 case atStart=>exact⟨0,Kcq _,rfl,KBq⟩
 case round=>
  obtain⟨k,F,rfl,g⟩:=hrel
  by_cases hlt:k < l.length
  ·rcases r with r|⟨n,a,rfl,h,d⟩
   ·subst r;simp at hlt
   rcases h2 with h2|⟨q,b,rfl,j,f⟩
   ·subst h2;simp at hlt
   have s:wr.cell? ⟨n,a+k * 2,none⟩=some (.int .i64 (l.getD k (0,0)).1):=(g.cell (p:=⟨n,a+k * 2,none⟩) h).trans (d k hlt).1;have t:wr.cell? ⟨n,a+k * 2+1,none⟩=some (.int .i64 (l.getD k (0,0)).2):=(g.cell (p:=⟨n,a+k * 2+1,none⟩) h).trans (d k hlt).2;have u:wr.cell? ⟨q,b+k * 2,none⟩=some (.int .i64 (l.getD k (0,0)).1):=(g.cell (p:=⟨q,b+k * 2,none⟩) j).trans (f k hlt).1;have v:wr.cell? ⟨q,b+k * 2+1,none⟩=some (.int .i64 (l.getD k (0,0)).2):=(g.cell (p:=⟨q,b+k * 2+1,none⟩) j).trans (f k hlt).2;have z:=Q00 g
   have m:=Q00 g.size;clear d f g
   have H:(k:Int) < (l.length:Int):=by omega
   generalize (l.getD k (0,0)).1=x at *;generalize (l.getD k (0,0)).2=y at *;go_wp2
   go_region_held3 (fun w'=>w'.cell? ⟨n,a+k * 2,none⟩=some (.int .i64 x)/\w'.cell? ⟨n,a+k * 2+1,none⟩=some (.int .i64 y)/\w'.cell? ⟨q,b+k * 2,none⟩=some (.int .i64 x)/\w'.cell? ⟨q,b+k * 2+1,none⟩=some (.int .i64 y)) (first|exact⟨s,t,u,v⟩) (first|(go_at_call 225;refine(QcG _ _ _).mono ?_;rintro e E ⟨rfl,c⟩;replace c:Below wr.heap.size wr E:=(KHq KBq).trans c;have s:=(c.cell (p:=⟨n,a+k * 2,none⟩) (Kbq h m.out)).trans s;have t:=(c.cell (p:=⟨n,a+k * 2+1,none⟩) (Kbq h m.out)).trans t;have u:=(c.cell (p:=⟨q,b+k * 2,none⟩) (Kbq j m.out)).trans u;have v:=(c.cell (p:=⟨q,b+k * 2+1,none⟩) (Kbq j m.out)).trans v))
   go_wp2;go_roundw
   case rel=>exact⟨k+1,by omega,by go_num,z.out.trans (c.mono z.out.size)⟩
   case measure=>simp[intOf];omega
  ·have e:k=l.length:=by omega
   subst e;go_wp2;go_ret;exact⟨rfl,g⟩
abbrev crr (a b f s:Int) (v g:Value) (p t:Int):Value:=.agg #[.int .i64 a,.int .i64 b,.int .i64 f,.int .i64 s,v,g,.int .i64 p,.int .i64 t]
theorem Q5S:Tryz.prog.cellsOf 177=8:=by kernel_rfl
theorem Q8E:Tryz.prog.cellsOf 175=1:=by kernel_rfl
theorem Q93 (a b f s:Int) (o r:Option Addr) (len cap j q:Nat) (pl st:Int) (n:Int) (w:World) (x:len<=maxLen) (v:j<=maxLen) (t:0<=n) (u:n<=1048576):
  Calls Tryz.prog 153 #[crr a b f s (.slice o len cap) (.slice r j q) pl st,.int .i64 n] w fun e y=>e=.returned (.int .i64 (if n - len - j < 0 then -1 else n - len - j))/\Below w.heap.size w y:=by
 have g:Below w.heap.size w w:=KBq
 have hs:=fun w=>QaI a b f s o len cap n w x t u
 by_cases h:n - len < 0
 ·rw[if_pos h]at hs
  rw[if_pos (by omega)];go_enter Tryz.func153,Tryz.ntmps153;go_wp2_with (first|(go_at_call 194;refine(hs _).mono ?_;rintro e d ⟨rfl,c⟩;obtain⟨k,l⟩:=Q0F c;have i:w.heap.size < d.heap.size:=(by have m:=c.size;(try simp at m);omega);have g:Below w.heap.size w d:=(by refine Below.trans ?_ (c.mono (by have hs:=g.size;(try simp) <;> omega));(repeat (first|with_reducible (first|exact g|exact KBq|refine KHq ?_|refine below_drewN ?_ _|refine KOq ?_ ?_ _|refine KNq ?_ ?_ _)|(focus (simp;first|done|omega))|omega)))));go_ret
  exact⟨rfl,by(repeat (first|with_reducible (first|exact g|exact KBq|refine KHq ?_|refine below_drewN ?_ _|refine KOq ?_ ?_ _|refine KNq ?_ ?_ _)|(focus (simp;first|done|omega))|omega))⟩
 ·rw[if_neg h]at hs
  have p:=fun w=>Qd4 r j q (n - len) w v (by omega) (by omega)
  by_cases h2:n - len - j < 0
  ·rw[if_pos h2]at p
   rw[if_pos h2];go_enter Tryz.func153,Tryz.ntmps153
   go_wp2_with (first|(go_at_call 194;refine(hs _).mono ?_;rintro e d ⟨rfl,c⟩;obtain⟨k,l⟩:=Q0F c;have i:w.heap.size < d.heap.size:=(by have m:=c.size;(try simp at m);omega);have g:Below w.heap.size w d:=(by refine Below.trans ?_ (c.mono (by have hs:=g.size;(try simp) <;> omega));(repeat (first|with_reducible (first|exact g|exact KBq|refine KHq ?_|refine below_drewN ?_ _|refine KOq ?_ ?_ _|refine KNq ?_ ?_ _)|(focus (simp;first|done|omega))|omega))))|(go_at_call 195;refine(p _).mono ?_;rintro e z ⟨rfl,rfl⟩));go_ret
   exact⟨rfl,by(repeat (first|with_reducible (first|exact g|exact KBq|refine KHq ?_|refine below_drewN ?_ _|refine KOq ?_ ?_ _|refine KNq ?_ ?_ _)|(focus (simp;first|done|omega))|omega))⟩
  ·rw[if_neg h2]at p
   rw[if_neg h2];go_enter Tryz.func153,Tryz.ntmps153
   go_wp2_with (first|(go_at_call 194;refine(hs _).mono ?_;rintro e d ⟨rfl,c⟩;obtain⟨k,l⟩:=Q0F c;have i:w.heap.size < d.heap.size:=(by have m:=c.size;(try simp at m);omega);have g:Below w.heap.size w d:=(by refine Below.trans ?_ (c.mono (by have hs:=g.size;(try simp) <;> omega));(repeat (first|with_reducible (first|exact g|exact KBq|refine KHq ?_|refine below_drewN ?_ _|refine KOq ?_ ?_ _|refine KNq ?_ ?_ _)|(focus (simp;first|done|omega))|omega))))|(go_at_call 195;refine(p _).mono ?_;rintro e z ⟨rfl,rfl⟩));go_ret
   exact⟨rfl,by(repeat (first|with_reducible (first|exact g|exact KBq|refine KHq ?_|refine below_drewN ?_ _|refine KOq ?_ ?_ _|refine KNq ?_ ?_ _)|(focus (simp;first|done|omega))|omega))⟩
theorem Q8l (a b f s:Int) (o G:Option Addr) (cap I:Nat) (l:List Int) (g:List (Int × Int)) (pl st:Int) (w:World) (M:Rd w o l) (C:isB l) (t:l.length<=1048576) (L:RdG w G g) (F:g.length<=1048576):
  Calls Tryz.prog 158 #[crr a b f s (.slice o l.length cap) (.slice G g.length I) pl st] w fun e H=> ∃k n,e=.returned (crr a b f s (.slice (some ⟨k,0,none⟩) l.length l.length) (.slice (some ⟨n,0,none⟩) g.length g.length) pl st)/\ownB H w.heap.size (.slice (some ⟨k,0,none⟩) l.length l.length) l/\ownG H w.heap.size (.slice (some ⟨n,0,none⟩) g.length g.length) g/\k < n/\Below w.heap.size w H:=by
 have m:Below w.heap.size w w:=KBq;go_enter Tryz.func158,Tryz.ntmps158
 go_wp2_with (first|(go_at_call 200;refine(Q9R a b f s o cap l _ (M.kept (by(repeat (first|with_reducible (first|exact m|exact KBq|refine KHq ?_|refine below_drewN ?_ _|refine KOq ?_ ?_ _|refine KNq ?_ ?_ _)|(focus (simp;first|done|omega))|omega)))) C t).mono ?_;rintro e c ⟨k,rfl,q,h⟩;obtain⟨D,N⟩:=Q0F h;have r:w.heap.size < c.heap.size:=(by have j:=h.size;(try simp at j);omega);have x:w.heap.size+1 < c.heap.size:=(by have j:=h.size;(try simp at j);omega);have z:w.heap.size+1+1 < c.heap.size:=(by have j:=h.size;(try simp at j);omega);have m:Below w.heap.size w c:=(by refine Below.trans ?_ (h.mono (by have hs:=m.size;(try simp) <;> omega));(repeat (first|with_reducible (first|exact m|exact KBq|refine KHq ?_|refine below_drewN ?_ _|refine KOq ?_ ?_ _|refine KNq ?_ ?_ _)|(focus (simp;first|done|omega))|omega))))|(go_at_call 201;refine(QcZ G I g _ (L.kept (by(repeat (first|with_reducible (first|exact m|exact KBq|refine KHq ?_|refine below_drewN ?_ _|refine KOq ?_ ?_ _|refine KNq ?_ ?_ _)|(focus (simp;first|done|omega))|omega)))) F).mono ?_;rintro e i ⟨n,rfl,p,d⟩;obtain⟨E,O⟩:=Q0F d;have u:w.heap.size < i.heap.size:=(by have j:=d.size;(try simp at j);omega);have y:w.heap.size+1 < i.heap.size:=(by have j:=d.size;(try simp at j);omega);have A:w.heap.size+1+1 < i.heap.size:=(by have j:=d.size;(try simp at j);omega);have m:Below w.heap.size w i:=(by refine Below.trans ?_ (d.mono (by have hs:=m.size;(try simp) <;> omega));(repeat (first|with_reducible (first|exact m|exact KBq|refine KHq ?_|refine below_drewN ?_ _|refine KOq ?_ ?_ _|refine KNq ?_ ?_ _)|(focus (simp;first|done|omega))|omega)))))
 have B:ownB c (w.heap.size+1+1+1) (.slice (some ⟨k,0,none⟩) l.length l.length) l:=by simpa using q
 have R:k < c.heap.size:=(B.lt k rfl).2
 have h2:ownG i c.heap.size (.slice (some ⟨n,0,none⟩) g.length g.length) g:=by simpa using p
 have P:c.heap.size<=n:=(h2.lt n rfl).1
 have J:ownB i (w.heap.size+1+1+1) (.slice (some ⟨k,0,none⟩) l.length l.length) l:=by
  refine Q0a ?_ d
  repeat (refine ownsRow_setCell_below ?_ (by simp <;> omega) _)
  exact B
 clear q p h d B;refine bodyPost_ret (v:=crr a b f s (.slice (some ⟨k,0,none⟩) l.length l.length) (.slice (some ⟨n,0,none⟩) g.length g.length) pl st) (by simp[results,Tryz.results158,go_sem,E,D,r,x,z,u,y,A]) rfl ⟨k,n,rfl, ?_, ?_, ?_, ?_⟩
 ·refine Q06 (base:=w.heap.size+1+1+1) ?_ (by omega)
  repeat (refine ownsRow_setCell_below ?_ (by simp <;> omega) _)
  exact J
 ·refine Q06 (base:=c.heap.size) ?_ (KIq r)
  repeat (refine ownsRow_setCell_below ?_ (by simp <;> omega) _)
  exact h2
 ·omega
 ·(repeat (first|with_reducible (first|exact m|exact KBq|refine KHq ?_|refine below_drewN ?_ _|refine KOq ?_ ?_ _|refine KNq ?_ ?_ _)|(focus (simp;first|done|omega))|omega))
theorem Q7j (a b f s:Int) (m n p q:Option Addr) (r t u v:Nat) (l:List Int) (g:List (Int × Int)) (pl st:Int) (w:World) (D:Rd w m l) (h2:Rd w n l) (J:l.length<=1048576) (B:RdG w p g) (C:RdG w q g) (I:g.length<=1048576):
  Calls Tryz.prog 141 #[crr a b f s (.slice m l.length r) (.slice p g.length u) pl st,crr a b f s (.slice n l.length t) (.slice q g.length v) pl st] w fun e L=>e=.returned (.bool true)/\Below w.heap.size w L:=by
 have c:Below w.heap.size w w:=KBq;go_enter Tryz.func141,Tryz.ntmps141
 go_wp2_with (first|(go_at_call 189;refine(Q8K a b f s m n r t l _ (D.kept (by(repeat (first|with_reducible (first|exact c|exact KBq|refine KHq ?_|refine below_drewN ?_ _|refine KOq ?_ ?_ _|refine KNq ?_ ?_ _)|(focus (simp;first|done|omega))|omega)))) (h2.kept (by(repeat (first|with_reducible (first|exact c|exact KBq|refine KHq ?_|refine below_drewN ?_ _|refine KOq ?_ ?_ _|refine KNq ?_ ?_ _)|(focus (simp;first|done|omega))|omega)))) J).mono ?_;rintro e j ⟨rfl,d⟩;obtain⟨E,G⟩:=Q0F d;have x:w.heap.size < j.heap.size:=(by have i:=d.size;(try simp at i);omega);have z:w.heap.size+1 < j.heap.size:=(by have i:=d.size;(try simp at i);omega);have c:Below w.heap.size w j:=(by refine Below.trans ?_ (d.mono (by have hs:=c.size;(try simp) <;> omega));(repeat (first|with_reducible (first|exact c|exact KBq|refine KHq ?_|refine below_drewN ?_ _|refine KOq ?_ ?_ _|refine KNq ?_ ?_ _)|(focus (simp;first|done|omega))|omega))))|(go_at_call 190;refine(QbP p q u v g _ (B.kept (by(repeat (first|with_reducible (first|exact c|exact KBq|refine KHq ?_|refine below_drewN ?_ _|refine KOq ?_ ?_ _|refine KNq ?_ ?_ _)|(focus (simp;first|done|omega))|omega)))) (C.kept (by(repeat (first|with_reducible (first|exact c|exact KBq|refine KHq ?_|refine below_drewN ?_ _|refine KOq ?_ ?_ _|refine KNq ?_ ?_ _)|(focus (simp;first|done|omega))|omega)))) I).mono ?_;rintro e k ⟨rfl,h⟩;obtain⟨F,H⟩:=Q0F h;have y:w.heap.size < k.heap.size:=(by have i:=h.size;(try simp at i);omega);have A:w.heap.size+1 < k.heap.size:=(by have i:=h.size;(try simp at i);omega);have c:Below w.heap.size w k:=(by refine Below.trans ?_ (h.mono (by have hs:=c.size;(try simp) <;> omega));(repeat (first|with_reducible (first|exact c|exact KBq|refine KHq ?_|refine below_drewN ?_ _|refine KOq ?_ ?_ _|refine KNq ?_ ?_ _)|(focus (simp;first|done|omega))|omega)))))
 go_ret;exact⟨rfl,by(repeat (first|with_reducible (first|exact c|exact KBq|refine KHq ?_|refine below_drewN ?_ _|refine KOq ?_ ?_ _|refine KNq ?_ ?_ _)|(focus (simp;first|done|omega))|omega))⟩
end Go.Proofs.YteffhdcankkfkaaGreat
