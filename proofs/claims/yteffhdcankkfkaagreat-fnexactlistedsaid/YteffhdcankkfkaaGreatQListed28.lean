/- Mails as a shape: one that came in, its size, its copy, its comparison. -/
import Derived.Test.YteffhdcankkfkaaGreatQListed26
import Derived.Test.YteffhdcankkfkaaGreatQListed27
namespace Go.Proofs.YteffhdcankkfkaaGreat
open Go.ChangeShapes Go.WideShapes Go.ChangeAt Go.RowKit Go.Joins
set_option linter.unusedVariables false
set_option linter.unusedSimpArgs false
set_option maxRecDepth 100000
set_option maxHeartbeats 40000000
theorem Q8B:Tryz.prog.cellsOf 179=12:=by kernel_rfl
theorem Q4S {H:Type} {enc:TypeId × Value->H} {W:World} {c:Nat} {j k m p q t u v:Value} {x:DataW H × List MemPlace}
  (h:DataW.trod enc Tryz.prog W 0 (fun _=>true) true c 177 [j,k,m,p,q,t,u,v]=some x):
  ∃(a b f s:Int) (o:Option Addr) (cap:Nat) (l:List Int) (d:Option Addr) (i:Nat) (g:List (Int × Int)) (pl st:Int),[j,k,m,p,q,t,u,v]=[.int .i64 a,.int .i64 b,.int .i64 f,.int .i64 s,.slice o l.length cap,.slice d g.length i,.int .i64 pl,.int .i64 st]/\l.length<=maxLen/\Rd W o l/\isB l/\g.length<=maxLen/\RdG W d g:=by
 obtain⟨E,F,G,I,n,_,_,A,B,h2,C⟩:=trod_struct4 Tryz.underlying177 h;simp[Q4C,Q7b,Q8E]at A B h2 C;obtain⟨a,b,f,s,o,cap,l,e,r⟩:=Q5j A;obtain⟨d,i,g,z,D⟩:=Q6y B;obtain⟨pl,w,_,_⟩:=DataW.trod_int Tryz.underlying3 h2;obtain⟨st,y,_,_⟩:=DataW.trod_int Tryz.underlying3 C;simp at e z w y;obtain⟨rfl,rfl,rfl,rfl,rfl⟩:=e;subst z w y;exact⟨a,b,f,s,o,cap,l,d,i,g,pl,st,rfl,r.1,r.2.1,r.2.2,D.1,D.2⟩
theorem Qd5 (k a b f s:Int) (o t:Option Addr) (len cap i r:Nat) (pl st fa fp bk:Int) (n:Int) (w:World) (y:len<=maxLen) (x:i<=maxLen) (u:0<=n) (v:n<=1048576):
  Calls Tryz.prog 101 #[mlv k a b f s (.slice o len cap) (.slice t i r) pl st fa fp bk,.int .i64 n] w fun e z=>e=.returned (.int .i64 (if n - len - i < 0 then -1 else n - len - i))/\Below w.heap.size w z:=by
 have g:Below w.heap.size w w:=KBq
 have hs:=fun w=>Q93 a b f s o t len cap i r pl st n w y x u v
 by_cases h:n - len - i < 0
 ·rw[if_pos h]at hs
  rw[if_pos h];go_enter Tryz.func101,Tryz.ntmps101;go_wp2_with (first|(go_at_call 153;refine(hs _).mono ?_;rintro e d ⟨rfl,c⟩;obtain⟨l,m⟩:=Q0F c;have j:w.heap.size < d.heap.size:=(by have p:=c.size;(try simp at p);omega);have g:Below w.heap.size w d:=(by refine Below.trans ?_ (c.mono (by have hs:=g.size;(try simp) <;> omega));(repeat (first|with_reducible (first|exact g|exact KBq|refine KHq ?_|refine below_drewN ?_ _|refine KOq ?_ ?_ _|refine KNq ?_ ?_ _)|(focus (simp;first|done|omega))|omega)))));go_ret
  exact⟨rfl,by(repeat (first|with_reducible (first|exact g|exact KBq|refine KHq ?_|refine below_drewN ?_ _|refine KOq ?_ ?_ _|refine KNq ?_ ?_ _)|(focus (simp;first|done|omega))|omega))⟩
 ·rw[if_neg h]at hs
  rw[if_neg h];generalize n - len - i=q at *;have A:¬q < 0:=h;go_enter Tryz.func101,Tryz.ntmps101
  go_wp2_with (first|(go_at_call 153;refine(hs _).mono ?_;rintro e d ⟨rfl,c⟩;obtain⟨l,m⟩:=Q0F c;have j:w.heap.size < d.heap.size:=(by have p:=c.size;(try simp at p);omega);have g:Below w.heap.size w d:=(by refine Below.trans ?_ (c.mono (by have hs:=g.size;(try simp) <;> omega));(repeat (first|with_reducible (first|exact g|exact KBq|refine KHq ?_|refine below_drewN ?_ _|refine KOq ?_ ?_ _|refine KNq ?_ ?_ _)|(focus (simp;first|done|omega))|omega)))));go_ret
  exact⟨rfl,by(repeat (first|with_reducible (first|exact g|exact KBq|refine KHq ?_|refine below_drewN ?_ _|refine KOq ?_ ?_ _|refine KNq ?_ ?_ _)|(focus (simp;first|done|omega))|omega))⟩
theorem QdI (k a b f s:Int) (o G:Option Addr) (cap I:Nat) (l:List Int) (g:List (Int × Int)) (pl st fa fp bk:Int) (w:World) (O:Rd w o l) (C:isB l) (t:l.length<=1048576) (N:RdG w G g) (F:g.length<=1048576):
  Calls Tryz.prog 106 #[mlv k a b f s (.slice o l.length cap) (.slice G g.length I) pl st fa fp bk] w fun e H=> ∃r q,e=.returned (mlv k a b f s (.slice (some ⟨r,0,none⟩) l.length l.length) (.slice (some ⟨q,0,none⟩) g.length g.length) pl st fa fp bk)/\ownB H w.heap.size (.slice (some ⟨r,0,none⟩) l.length l.length) l/\ownG H w.heap.size (.slice (some ⟨q,0,none⟩) g.length g.length) g/\Below w.heap.size w H:=by
 have m:Below w.heap.size w w:=KBq;go_enter Tryz.func106,Tryz.ntmps106
 go_wp2_with (first|(go_at_call 158;refine(Q8l a b f s o G cap I l g pl st _ (O.kept (by(repeat (first|with_reducible (first|exact m|exact KBq|refine KHq ?_|refine below_drewN ?_ _|refine KOq ?_ ?_ _|refine KNq ?_ ?_ _)|(focus (simp;first|done|omega))|omega)))) C t (N.kept (by(repeat (first|with_reducible (first|exact m|exact KBq|refine KHq ?_|refine below_drewN ?_ _|refine KOq ?_ ?_ _|refine KNq ?_ ?_ _)|(focus (simp;first|done|omega))|omega)))) F).mono ?_;rintro e h ⟨r,q,rfl,p,n,_,d⟩;obtain⟨D,P⟩:=Q0F d;have u:w.heap.size < h.heap.size:=(by have j:=d.size;(try simp at j);omega);have y:w.heap.size+1 < h.heap.size:=(by have j:=d.size;(try simp at j);omega);have A:w.heap.size+1+1 < h.heap.size:=(by have j:=d.size;(try simp at j);omega);have m:Below w.heap.size w h:=(by refine Below.trans ?_ (d.mono (by have hs:=m.size;(try simp) <;> omega));(repeat (first|with_reducible (first|exact m|exact KBq|refine KHq ?_|refine below_drewN ?_ _|refine KOq ?_ ?_ _|refine KNq ?_ ?_ _)|(focus (simp;first|done|omega))|omega))))|(go_at_call 25;refine(Q1T fa fp _).mono ?_;rintro e i ⟨rfl,c⟩;obtain⟨E,R⟩:=Q0F c;have x:w.heap.size < i.heap.size:=(by have j:=c.size;(try simp at j);omega);have z:w.heap.size+1 < i.heap.size:=(by have j:=c.size;(try simp at j);omega);have B:w.heap.size+1+1 < i.heap.size:=(by have j:=c.size;(try simp at j);omega);have m:Below w.heap.size w i:=(by refine Below.trans ?_ (c.mono (by have hs:=m.size;(try simp) <;> omega));(repeat (first|with_reducible (first|exact m|exact KBq|refine KHq ?_|refine below_drewN ?_ _|refine KOq ?_ ?_ _|refine KNq ?_ ?_ _)|(focus (simp;first|done|omega))|omega)))))
 have J:ownB h (w.heap.size+1+1+1) (.slice (some ⟨r,0,none⟩) l.length l.length) l:=by simpa using p
 have h2:ownG h (w.heap.size+1+1+1) (.slice (some ⟨q,0,none⟩) g.length g.length) g:=by simpa using n
 have L:ownB i (w.heap.size+1+1+1) (.slice (some ⟨r,0,none⟩) l.length l.length) l:=by
  refine Q0a ?_ c
  repeat (refine ownsRow_setCell_below ?_ (by simp <;> omega) _)
  exact J
 have M:ownG i (w.heap.size+1+1+1) (.slice (some ⟨q,0,none⟩) g.length g.length) g:=by
  refine Q0a ?_ c
  repeat (refine ownsRow_setCell_below ?_ (by simp <;> omega) _)
  exact h2
 clear p n d c J h2;refine bodyPost_ret (v:=mlv k a b f s (.slice (some ⟨r,0,none⟩) l.length l.length) (.slice (some ⟨q,0,none⟩) g.length g.length) pl st fa fp bk) (by simp[results,Tryz.results106,go_sem,E,D,u,y,A,x,z,B]) rfl ⟨r,q,rfl, ?_, ?_, ?_⟩
 ·refine Q06 (base:=w.heap.size+1+1+1) ?_ (by omega)
  repeat (refine ownsRow_setCell_below ?_ (by simp <;> omega) _)
  exact L
 ·refine Q06 (base:=w.heap.size+1+1+1) ?_ (by omega)
  repeat (refine ownsRow_setCell_below ?_ (by simp <;> omega) _)
  exact M
 ·(repeat (first|with_reducible (first|exact m|exact KBq|refine KHq ?_|refine below_drewN ?_ _|refine KOq ?_ ?_ _|refine KNq ?_ ?_ _)|(focus (simp;first|done|omega))|omega))
theorem QbF (k a b f s:Int) (n p q r:Option Addr) (t u v x:Nat) (l:List Int) (g:List (Int × Int)) (pl st fa fp bk:Int) (w:World) (E:Rd w n l) (h2:Rd w p l) (L:l.length<=1048576) (C:RdG w q g) (D:RdG w r g) (J:g.length<=1048576):
  Calls Tryz.prog 83 #[mlv k a b f s (.slice n l.length t) (.slice q g.length v) pl st fa fp bk,mlv k a b f s (.slice p l.length u) (.slice r g.length x) pl st fa fp bk] w fun e M=>e=.returned (.bool true)/\Below w.heap.size w M:=by
 have c:Below w.heap.size w w:=KBq;go_enter Tryz.func83,Tryz.ntmps83
 go_wp2_with (first|(go_at_call 141;refine(Q7j a b f s n p q r t u v x l g pl st _ (E.kept (by(repeat (first|with_reducible (first|exact c|exact KBq|refine KHq ?_|refine below_drewN ?_ _|refine KOq ?_ ?_ _|refine KNq ?_ ?_ _)|(focus (simp;first|done|omega))|omega)))) (h2.kept (by(repeat (first|with_reducible (first|exact c|exact KBq|refine KHq ?_|refine below_drewN ?_ _|refine KOq ?_ ?_ _|refine KNq ?_ ?_ _)|(focus (simp;first|done|omega))|omega)))) L (C.kept (by(repeat (first|with_reducible (first|exact c|exact KBq|refine KHq ?_|refine below_drewN ?_ _|refine KOq ?_ ?_ _|refine KNq ?_ ?_ _)|(focus (simp;first|done|omega))|omega)))) (D.kept (by(repeat (first|with_reducible (first|exact c|exact KBq|refine KHq ?_|refine below_drewN ?_ _|refine KOq ?_ ?_ _|refine KNq ?_ ?_ _)|(focus (simp;first|done|omega))|omega)))) J).mono ?_;rintro e j ⟨rfl,d⟩;obtain⟨F,H⟩:=Q0F d;have y:w.heap.size < j.heap.size:=(by have i:=d.size;(try simp at i);omega);have A:w.heap.size+1 < j.heap.size:=(by have i:=d.size;(try simp at i);omega);have c:Below w.heap.size w j:=(by refine Below.trans ?_ (d.mono (by have hs:=c.size;(try simp) <;> omega));(repeat (first|with_reducible (first|exact c|exact KBq|refine KHq ?_|refine below_drewN ?_ _|refine KOq ?_ ?_ _|refine KNq ?_ ?_ _)|(focus (simp;first|done|omega))|omega))))|(go_at_call 142;refine(Q33 fa fp _).mono ?_;rintro e m ⟨rfl,h⟩;obtain⟨G,I⟩:=Q0F h;have z:w.heap.size < m.heap.size:=(by have i:=h.size;(try simp at i);omega);have B:w.heap.size+1 < m.heap.size:=(by have i:=h.size;(try simp at i);omega);have c:Below w.heap.size w m:=(by refine Below.trans ?_ (h.mono (by have hs:=c.size;(try simp) <;> omega));(repeat (first|with_reducible (first|exact c|exact KBq|refine KHq ?_|refine below_drewN ?_ _|refine KOq ?_ ?_ _|refine KNq ?_ ?_ _)|(focus (simp;first|done|omega))|omega)))))
 go_ret;exact⟨rfl,by(repeat (first|with_reducible (first|exact c|exact KBq|refine KHq ?_|refine below_drewN ?_ _|refine KOq ?_ ?_ _|refine KNq ?_ ?_ _)|(focus (simp;first|done|omega))|omega))⟩
structure Mm where
 k:Int
 c:Cm
 fa:Int
 fp:Int
 bk:Int
def RdMm (C:Nat) (w:World) (v:Value) (m:Mm):Prop:=∃vl vg,v=mlv m.k m.c.a m.c.b m.c.f m.c.s vl vg m.c.pl m.c.st m.fa m.fp m.bk/\RdV Qdf C w vl m.c.l/\RdV Q1R C w vg m.c.g
def Qjg (lo hi:Nat) (w:World) (v:Value) (m:Mm):Prop:=∃vl vg,v=mlv m.k m.c.a m.c.b m.c.f m.c.s vl vg m.c.pl m.c.st m.fa m.fp m.bk/\InB lo hi w vl m.c.l/\InG lo hi w vg m.c.g
theorem RdMm.kept {C D:Nat} {w w':World} {v:Value} {m:Mm} (h:RdMm C w v m) (hb:Below D w w') (hc:C<=D):RdMm C w' v m:=by
 obtain⟨vl,vg,e,h1,h2⟩:=h;exact⟨vl,vg,e,h1.kept hb hc,h2.kept hb hc⟩
theorem RdMm.le {C D:Nat} {w:World} {v:Value} {m:Mm} (h:RdMm C w v m) (hc:C<=D):RdMm D w v m:=by
 obtain⟨vl,vg,e,h1,h2⟩:=h;exact⟨vl,vg,e,h1.le hc,h2.le hc⟩
theorem Qeb (v:Value) (m:Mm) (w:World) (p:RdMm w.heap.size w v m) (i:QbR m.c):
  Calls Tryz.prog 106 #[v] w fun e d=> ∃j,e=.returned j/\Qjg w.heap.size d.heap.size d j m/\Below w.heap.size w d:=by
 obtain⟨A,z,rfl,⟨o,c,rfl,r⟩,⟨t,n,rfl,u⟩⟩:=p;have h:=i.1;refine(QdI m.k m.c.a m.c.b m.c.f m.c.s o t c n m.c.l m.c.g m.c.pl m.c.st m.fa m.fp m.bk w (Q9V.1 r) i.2 (by omega) (Q6h.1 u) (by omega)).mono ?_;rintro e d ⟨y,x,rfl,h,h2,q⟩;exact⟨_,rfl,⟨_,_,rfl,InB.of h,InG.of h2⟩,q⟩
theorem Qfg (j n:Value) (m:Mm) (w:World) (t:RdMm w.heap.size w j m) (h2:RdMm w.heap.size w n m) (v:m.c.l.length<=1048576) (u:m.c.g.length<=1048576):
  Calls Tryz.prog 83 #[j,n] w fun e D=>e=.returned (.bool true)/\Below w.heap.size w D:=by
 obtain⟨F,E,rfl,⟨o,c,rfl,r⟩,⟨y,q,rfl,A⟩⟩:=t;obtain⟨C,B,rfl,⟨x,p,rfl,z⟩,⟨h,d,rfl,i⟩⟩:=h2;exact QbF m.k m.c.a m.c.b m.c.f m.c.s o x y h c p q d m.c.l m.c.g m.c.pl m.c.st m.fa m.fp m.bk w (Q9V.1 r) (Q9V.1 z) v (Q6h.1 A) (Q6h.1 i) u
theorem Q8H (v:Value) (m:Mm) (w:World) (h:RdMm w.heap.size w v m) (i:QbR m.c):
  Calls Tryz.prog 72 #[v] w fun e p=>e=.returned (.bool (Q4M m.k m.c.a m.c.b m.c.f m.c.s m.c.l.length m.c.g m.c.pl m.c.st m.fa m.fp m.bk))/\Below w.heap.size w p:=by
 obtain⟨u,t,rfl,⟨o,c,rfl,r⟩,⟨j,d,rfl,n⟩⟩:=h;have q:=i.1;exact Q7x _ _ _ _ _ o j _ c d m.c.g _ _ _ _ _ w (by unfold maxLen;omega) (by unfold maxLen;omega) (Q6h.1 n)
theorem Q9k (v:Value) (m:Mm) (w:World) (h:RdMm w.heap.size w v m) (i:QbR m.c):
  Calls Tryz.prog 208 #[v] w fun e p=>e=.returned (.bool (Q4M m.k m.c.a m.c.b m.c.f m.c.s m.c.l.length m.c.g m.c.pl m.c.st m.fa m.fp m.bk))/\Below w.heap.size w p:=by
 obtain⟨u,t,rfl,⟨o,c,rfl,r⟩,⟨j,d,rfl,n⟩⟩:=h;have q:=i.1;exact Q7z _ _ _ _ _ o j _ c d m.c.g _ _ _ _ _ w (by unfold maxLen;omega) (by unfold maxLen;omega) (Q6h.1 n)
end Go.Proofs.YteffhdcankkfkaaGreat
