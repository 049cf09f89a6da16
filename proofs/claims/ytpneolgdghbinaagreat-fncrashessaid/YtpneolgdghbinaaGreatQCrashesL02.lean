/- Several texts in one: Bytes, Boxes, SPacket, SOpens. -/
import Derived.RegionTactic
import Derived.Deep.QuietTactic
import Derived.BigQuiet
import Derived.Test.YtpneolgdghbinaaGreatQCrashesL01
namespace Go.Proofs.YtpneolgdghbinaaGreat
open Go.ChangeShapes Go.WideShapes Go.ChangeAt Go.RowKit Go.Joins
set_option linter.unusedVariables false
set_option linter.unusedSimpArgs false
set_option maxRecDepth 100000
set_option maxHeartbeats 40000000
def Rd (w:World) (o:Option Addr) (l:List Int):Prop:=
 l=[]\/∃b off,o=some ⟨b,off,none⟩/\b < w.heap.size/\∀i,i < l.length->w.cell? ⟨b,off+i,none⟩=some (.int .u8 (l.getD i 0))
def isB (l:List Int):Prop:=∀n∈l,0<=n/\n<=255
theorem Rd.kept {w d:World} {o:Option Addr} {l:List Int} (h:Rd w o l) (c:Below w.heap.size w d):Rd d o l:=by
 rcases h with h|⟨b,off,g,a,f⟩
 ·exact .inl h
 ·exact .inr ⟨b,off,g,Kbq a c.size,fun i hi=>(c.cell (p:=⟨b,off+i,none⟩) a).trans (f i hi)⟩
theorem isB.get {l:List Int} (h:isB l) (k:Nat):0<=l.getD k 0/\l.getD k 0<=255:=by
 by_cases hk:k < l.length
 ·have:=h (l[k]) (List.getElem_mem hk)
  simpa[KFq,KGq hk]using this
 ·simp[KFq,List.getElem?_eq_none (Nat.le_of_not_lt hk)]
abbrev ownB (w:World) (base:Nat) (v:Value) (l:List Int):Prop:=w.ownsRow base 5 1 v l.length (l.map (Value.int .u8))
theorem ownB.rd {w:World} {base g n cap:Nat} {l:List Int} (h:ownB w base (.slice (some ⟨g,0,none⟩) n cap) l):Rd w (some ⟨g,0,none⟩) l:=by
 have d:n=l.length:=by
  rcases h.2 with⟨a,_⟩|⟨f,b,c,a,_⟩
  ·simp at a
  ·simp at a;exact a.2.1
 subst d;refine .inr ⟨g,0,rfl, ?_,fun i hi=>?_⟩
 ·exact(h.lt g rfl).2
 ·have:=h.cellAt i (by omega)
  rw[Nat.zero_add,this];simp[hi]
theorem ownB.open {w:World} {base:Nat} {v:Value} {l:List Int} (h:ownB w base v l):∃o cap,v=.slice o l.length cap/\Rd w o l:=by
 have b:=h
 rcases h.2 with⟨c,h2⟩|⟨g,cap,a,hv,_⟩
 ·have e:l=[]:=List.eq_nil_of_length_eq_zero h2
  subst e;exact⟨none,0,by simpa using c,.inl rfl⟩
 ·subst hv
  exact⟨_,cap,rfl,b.rd⟩
theorem Rd.news {w:World} {d:Addr} {l:List Int} (h:Rd w (some d) l):∀j u,(l.map (Value.int .u8))[j]? =some u->w.cell? (d.add j)=some u:=by
 intro j u c
 rcases h with h|⟨b,off,i,_,g⟩
 ·subst h;simp at c
 ·cases i
  have a:j < l.length:=by
   rcases Nat.lt_or_ge j l.length with h|h
   ·exact h
   ·simp[List.getElem?_eq_none h]at c
  have f:(⟨b,off,none⟩:Addr).add j=⟨b,off+j,none⟩:=by by_cases h:j=0 <;> simp[Addr.add,h]
  rw[f,g j a]
  simpa[a]using c
theorem Rd.nil {w:World} {l:List Int} (h:Rd w none l):l=[]:=by
 rcases h with h|⟨b,off,ho,_⟩
 ·exact h
 ·cases ho
def RdB (C:Nat) (w:World) (o:Option Addr) (l:List Int):Prop:=
 l=[]\/∃b off,o=some ⟨b,off,none⟩/\b < C/\∀i,i < l.length->w.cell? ⟨b,off+i,none⟩=some (.int .u8 (l.getD i 0))
theorem Rd.toB {w:World} {o:Option Addr} {l:List Int} (h:Rd w o l):RdB w.heap.size w o l:=h
theorem RdB.kept {C D:Nat} {w c:World} {o:Option Addr} {l:List Int} (h:RdB C w o l) (d:Below D w c) (f:C<=D):RdB C c o l:=by
 rcases h with h|⟨b,off,g,a,r⟩
 ·exact .inl h
 ·exact .inr ⟨b,off,g,a,fun i hi=>(d.cell (p:=⟨b,off+i,none⟩) (Kbq a f)).trans (r i hi)⟩
theorem Q03 {w b:World} {base:Nat} {e:TypeId} {size:Nat} {v:Value} {n:Nat} {c:List Value} (h:w.ownsRow base e size v n c) (a:Below w.heap.size w b):b.ownsRow base e size v n c:=
 h.kept (row:=none) ⟨a.os,a.tape,a.output,a.size,fun k d _=>a.block k d⟩ (by cases v.ownBlock <;> simp)
theorem Q6D {H:Type} {enc:TypeId × Value->H} {W:World} {j:Nat} {cs:List Value} {x:DataW H × List MemPlace} (h:DataW.trod enc Tryz.prog W 0 (fun _=>true) true j 22 cs=some x):
  ∃(o:Option Addr) (cap:Nat) (l:List Int),cs=[.slice o l.length cap]/\l.length<=maxLen/\Rd W o l/\isB l:=by
 rcases open_ints Tryz.underlying22 Tryz.underlying5 (by kernel_rfl) h with⟨d,_⟩|⟨a,len,cap,g,d,_,y,hm,v,_,c,r⟩
 ·exact⟨none,0,[],d,Kcq _,.inl rfl,fun n p=>by cases p⟩
 ·have w:g.length=cap:=by simpa using v
  have q:(g.take len).length=len:=by simp;omega
  refine⟨some a,cap,g.take len,by rw[q];exact d,by omega, ?_, ?_⟩
  ·by_cases h0:len=0
   ·left;simp[h0]
   ·right
    obtain⟨b,off,k⟩:=a;have s:=c 0 (by omega)
    have f:k=none:=by simpa[Addr.add]using World.cell?_spot s
    subst f;refine⟨b,off,rfl, ?_,fun i hi=>?_⟩
    ·have m:W.cell? ⟨b,off,none⟩=some (.int .u8 (g.getD 0 0)):=by simpa[Addr.add]using s
     rcases Nat.lt_or_ge b W.heap.size with h|h
     ·exact h
     ·simp[World.cell?,Array.getElem?_eq_none h]at m
    ·have u:=c i (by omega)
     have e:(g.take len).getD i 0=g.getD i 0:=by
      have:i < len:=by omega
      simp[KFq,List.getElem?_take,this]
     have t:(⟨b,off,none⟩:Addr).add i=⟨b,off+i,none⟩:=by by_cases h:i=0 <;> simp[Addr.add,h]
     rw[e,<-t];exact u
  ·intro n p
   have:=r n (List.mem_of_mem_take p)
   simpa[Lit.wf,IntKind.min,IntKind.max,IntKind.signed,IntKind.bits]using this
theorem QcY {H:Type} {enc:TypeId × Value->H} {W:World} {base:Nat} {v:Value} {d:DataW H} {p:List MemPlace}
  (hv:Value.okWide Tryz.prog W .any base 22 v) (h:DataW.Trod enc Tryz.prog W 0 (fun _=>true) true 22 v d p):
  ∃(o:Option Addr) (cap:Nat) (l:List Int),v=.slice o l.length cap/\l.length<=maxLen/\Rd W o l/\isB l:=by
 obtain⟨i,f,b,rfl⟩:=okWide_slice Tryz.underlying22 hv;obtain⟨c,g⟩:=h;obtain⟨o,cap,l,a,r⟩:=Q6D g;simp[Value.cells]at a;obtain⟨rfl,rfl,rfl⟩:=a;exact⟨_,_,l,rfl,r⟩
theorem Qix:(Tryz.prog.info? 5).map (fun i=>(i.zero,i.size,i.bytes))=some (some (.int .u8 0),1,1):=by kernel_rfl
theorem Qhv (l:List Int) (k:Nat) (h:k < l.length):l.getD k 0=l[k]:=by simp[h]
theorem Q2h (l:List Int) (k:Nat) (h:k < l.length):l.take (k+1)=l.take k++[l.getD k 0]:=by
 rw[List.take_succ_eq_append_getElem h,Qhv l k h]
abbrev pkt (a b f s:Int) (v:Value):Value:=.agg #[.int .i64 a,.int .i64 b,.int .i64 f,.int .i64 s,v]
def boxed (k:Nat) (a b f s:Int) (v:Value) (w:World):Prop:=
 w.cell? ⟨k,0,none⟩=some (.int .i64 a)/\w.cell? ⟨k,1,none⟩=some (.int .i64 b)/\w.cell? ⟨k,2,none⟩=some (.int .i64 f)/\w.cell? ⟨k,3,none⟩=some (.int .i64 s)/\w.cell? ⟨k,4,none⟩=some v
theorem boxed.kept {k:Nat} {a b f s:Int} {v:Value} {w g:World} {B:Nat} (h:boxed k a b f s v w) (c:Below B w g) (d:k < B):boxed k a b f s v g:=
 ⟨(c.cell (p:=⟨k,0,none⟩) d).trans h.1,(c.cell (p:=⟨k,1,none⟩) d).trans h.2.1,(c.cell (p:=⟨k,2,none⟩) d).trans h.2.2.1,(c.cell (p:=⟨k,3,none⟩) d).trans h.2.2.2.1,(c.cell (p:=⟨k,4,none⟩) d).trans h.2.2.2.2⟩
def empty5 (k:Nat) (w:World):Prop:=boxed k 0 0 0 0 (.slice none 0 0) w/\(w.frozen? ⟨k,0,none⟩=false/\w.frozen? ⟨k,1,none⟩=false/\w.frozen? ⟨k,2,none⟩=false/\w.frozen? ⟨k,3,none⟩=false/\w.frozen? ⟨k,4,none⟩=false)
theorem empty5.kept {k:Nat} {w c:World} {B:Nat} (h:empty5 k w) (a:Below B w c) (b:k < B):empty5 k c:=
 ⟨h.1.kept a b,(a.frozen (p:=⟨k,0,none⟩) b).trans h.2.1,(a.frozen (p:=⟨k,1,none⟩) b).trans h.2.2.1,(a.frozen (p:=⟨k,2,none⟩) b).trans h.2.2.2.1,(a.frozen (p:=⟨k,3,none⟩) b).trans h.2.2.2.2.1,(a.frozen (p:=⟨k,4,none⟩) b).trans h.2.2.2.2.2⟩
theorem Qdk (w:World) (e:TypeId):empty5 w.heap.size (w.alloc (.cells #[.int .i64 0,.int .i64 0,.int .i64 0,.int .i64 0,.slice none 0 0] e)):=by
 unfold empty5 boxed;simp
def Q0D (a b f s:Int) (n:Nat):Bool:=
 Q0o a b && decide (0<=f) && decide (f < 16) && decide (0<=s) && decide (s < 65536) && decide ((n:Int)<=16) && (bits .and .i64 f 1==0||bits .and .i64 f 12==0)
theorem Q3J {a b f s:Int} {n:Nat}:Q0D a b f s n=true↔Q0o a b=true/\0<=f/\f < 16/\0<=s/\s < 65536/\(n:Int)<=16/\(bits .and .i64 f 1=0\/bits .and .i64 f 12=0):=by
 simp[Q0D,and_assoc]
def Q46 (f:Int):Bool:=decide (0<=f) && decide (f < 16) && (bits .and .i64 f 1==0||bits .and .i64 f 12==0)
theorem Q50 {f:Int}:Q46 f=true↔0<=f/\f < 16/\(bits .and .i64 f 1=0\/bits .and .i64 f 12=0):=by simp[Q46,and_assoc]
theorem Q7n {f:Int} (h2:0<=f) (h3:f < 16):Q46 f=(bits .and .i64 f 1==0||bits .and .i64 f 12==0):=by simp[Q46,h2,h3]
theorem Q1A {a b f s:Int} {n:Nat}:Q0D a b f s n=true↔(Q0o a b=true/\Q46 f=true/\0<=s/\s<=65535/\(n:Int)<=16/\True):=by
 rw[Q3J,Q50]
 constructor
 ·rintro⟨c,d,g,h,k,i,j⟩;exact⟨c,⟨d,g,j⟩,h,by omega,i,trivial⟩
 ·rintro⟨c,⟨d,g,j⟩,h,k,i,_⟩;exact⟨c,d,g,h,by omega,i,j⟩
theorem Q8i {a b f s:Int} {n:Nat} (h1:Q0o a b=true) (h2:Q46 f=true) (h4:0<=s) (h5:s<=65535):decide ((n:Int)<=16)=Q0D a b f s n:=by
 rw[Bool.eq_iff_iff,Q1A];simp[h1,h2,h4,h5]
theorem Q3k (f:Int) (w:World):Calls Tryz.prog 88 #[.int .i64 f] w fun e b=>e=.returned (.bool (Q46 f))/\w=b:=by
 by_cases h2:0<=f
 ·by_cases h3:f < 16
  ·by_cases h7:bits .and .i64 f 1=0
   ·go_enter Tryz.func88,Tryz.ntmps88
    go_wp2;go_ret;exact⟨Q08 (by rw[Q7n h2 h3];simp[h7]),rfl⟩
   ·go_enter Tryz.func88,Tryz.ntmps88
    go_wp2;go_ret;exact⟨Q08 (by rw[Q7n h2 h3];simp[h7,bne]),rfl⟩
  ·have a:=Q02 (Q3d (Q50 (f:=f)) (fun q=>h3 q.2.1))
   go_enter Tryz.func88,Tryz.ntmps88;go_wp2;go_ret;exact⟨Q08 a.out,rfl⟩
 ·have a:=Q02 (Q3d (Q50 (f:=f)) (fun q=>h2 q.1))
  go_enter Tryz.func88,Tryz.ntmps88;go_wp2;go_ret;exact⟨Q08 a.out,rfl⟩
theorem Q1o (a b f s:Int) (o:Option Addr) (len cap:Nat) (w:World) (t:len<=maxLen):
  Calls Tryz.prog 38 #[pkt a b f s (.slice o len cap)] w fun e r=>e=.returned (.bool (Q0D a b f s len))/\Below w.heap.size w r:=by
 have c:Below w.heap.size w w:=KBq
 by_cases h1:Q0o a b=true
 ·by_cases h2:Q46 f=true
  ·by_cases h4:0<=s
   ·by_cases h5:s<=65535
    ·have p:=Q02 (Q8i (a:=a) (b:=b) (f:=f) (s:=s) (n:=len) h1 h2 h4 h5)
     go_enter Tryz.func38,Tryz.ntmps38
     go_wp2_with (first|(go_at_call 53;refine(Q0Z _ _ _).mono ?_;rintro e g ⟨rfl,d⟩;obtain⟨k,l⟩:=Q3L d;have i:w.heap.size < g.heap.size:=(by have h:=d.size;(try simp at h);omega);have c:Below w.heap.size w g:=(by refine Below.trans ?_ (d.mono (by have hs:=c.size;(try simp) <;> omega));(repeat (first|with_reducible (first|exact c|exact KBq|refine KHq ?_|refine below_drewN ?_ _|refine KOq ?_ ?_ _|refine KNq ?_ ?_ _)|(focus (simp;first|done|omega))|omega))))|(go_at_call 88;refine(Q3k _ _).mono ?_;rintro e m ⟨rfl,rfl⟩)|go_in);go_ret
     exact⟨Q08 p.out,by(repeat (first|with_reducible (first|exact c|exact KBq|refine KHq ?_|refine below_drewN ?_ _|refine KOq ?_ ?_ _|refine KNq ?_ ?_ _)|(focus (simp;first|done|omega))|omega))⟩
    ·have j:=Q02 (Q3d (Q1A (a:=a) (b:=b) (f:=f) (s:=s) (n:=len)) (fun q=>h5 q.2.2.2.1))
     go_enter Tryz.func38,Tryz.ntmps38
     go_wp2_with (first|(go_at_call 53;refine(Q0Z _ _ _).mono ?_;rintro e g ⟨rfl,d⟩;obtain⟨k,l⟩:=Q3L d;have i:w.heap.size < g.heap.size:=(by have h:=d.size;(try simp at h);omega);have c:Below w.heap.size w g:=(by refine Below.trans ?_ (d.mono (by have hs:=c.size;(try simp) <;> omega));(repeat (first|with_reducible (first|exact c|exact KBq|refine KHq ?_|refine below_drewN ?_ _|refine KOq ?_ ?_ _|refine KNq ?_ ?_ _)|(focus (simp;first|done|omega))|omega))))|(go_at_call 88;refine(Q3k _ _).mono ?_;rintro e m ⟨rfl,rfl⟩)|go_in);go_ret
     exact⟨Q08 j.out,by(repeat (first|with_reducible (first|exact c|exact KBq|refine KHq ?_|refine below_drewN ?_ _|refine KOq ?_ ?_ _|refine KNq ?_ ?_ _)|(focus (simp;first|done|omega))|omega))⟩
   ·have j:=Q02 (Q3d (Q1A (a:=a) (b:=b) (f:=f) (s:=s) (n:=len)) (fun q=>h4 q.2.2.1))
    go_enter Tryz.func38,Tryz.ntmps38
    go_wp2_with (first|(go_at_call 53;refine(Q0Z _ _ _).mono ?_;rintro e g ⟨rfl,d⟩;obtain⟨k,l⟩:=Q3L d;have i:w.heap.size < g.heap.size:=(by have h:=d.size;(try simp at h);omega);have c:Below w.heap.size w g:=(by refine Below.trans ?_ (d.mono (by have hs:=c.size;(try simp) <;> omega));(repeat (first|with_reducible (first|exact c|exact KBq|refine KHq ?_|refine below_drewN ?_ _|refine KOq ?_ ?_ _|refine KNq ?_ ?_ _)|(focus (simp;first|done|omega))|omega))))|(go_at_call 88;refine(Q3k _ _).mono ?_;rintro e m ⟨rfl,rfl⟩)|go_in);go_ret
    exact⟨Q08 j.out,by(repeat (first|with_reducible (first|exact c|exact KBq|refine KHq ?_|refine below_drewN ?_ _|refine KOq ?_ ?_ _|refine KNq ?_ ?_ _)|(focus (simp;first|done|omega))|omega))⟩
  ·have j:=Q02 (Q3d (Q1A (a:=a) (b:=b) (f:=f) (s:=s) (n:=len)) (fun q=>h2 q.2.1))
   go_enter Tryz.func38,Tryz.ntmps38
   go_wp2_with (first|(go_at_call 53;refine(Q0Z _ _ _).mono ?_;rintro e g ⟨rfl,d⟩;obtain⟨k,l⟩:=Q3L d;have i:w.heap.size < g.heap.size:=(by have h:=d.size;(try simp at h);omega);have c:Below w.heap.size w g:=(by refine Below.trans ?_ (d.mono (by have hs:=c.size;(try simp) <;> omega));(repeat (first|with_reducible (first|exact c|exact KBq|refine KHq ?_|refine below_drewN ?_ _|refine KOq ?_ ?_ _|refine KNq ?_ ?_ _)|(focus (simp;first|done|omega))|omega))))|(go_at_call 88;refine(Q3k _ _).mono ?_;rintro e m ⟨rfl,rfl⟩)|go_in);go_ret
   exact⟨Q08 j.out,by(repeat (first|with_reducible (first|exact c|exact KBq|refine KHq ?_|refine below_drewN ?_ _|refine KOq ?_ ?_ _|refine KNq ?_ ?_ _)|(focus (simp;first|done|omega))|omega))⟩
 ·have j:=Q02 (Q3d (Q1A (a:=a) (b:=b) (f:=f) (s:=s) (n:=len)) (fun q=>h1 q.1))
  go_enter Tryz.func38,Tryz.ntmps38
  go_wp2_with (first|(go_at_call 53;refine(Q0Z _ _ _).mono ?_;rintro e g ⟨rfl,d⟩;obtain⟨k,l⟩:=Q3L d;have i:w.heap.size < g.heap.size:=(by have h:=d.size;(try simp at h);omega);have c:Below w.heap.size w g:=(by refine Below.trans ?_ (d.mono (by have hs:=c.size;(try simp) <;> omega));(repeat (first|with_reducible (first|exact c|exact KBq|refine KHq ?_|refine below_drewN ?_ _|refine KOq ?_ ?_ _|refine KNq ?_ ?_ _)|(focus (simp;first|done|omega))|omega))))|(go_at_call 88;refine(Q3k _ _).mono ?_;rintro e m ⟨rfl,rfl⟩)|go_in);go_ret
  exact⟨Q08 j.out,by(repeat (first|with_reducible (first|exact c|exact KBq|refine KHq ?_|refine below_drewN ?_ _|refine KOq ?_ ?_ _|refine KNq ?_ ?_ _)|(focus (simp;first|done|omega))|omega))⟩
def Q2t (a b f s:Int) (n:Nat):Bool:=Q0D a b f s n && (bits .and .i64 f 3==1)
theorem Q8Q (f:Int) (a:0<=f) (b:f < 16):((bits .and .i64 f 1 !=0) && !(bits .and .i64 f 2 !=0))=(bits .and .i64 f 3==1):=by
 have h:f=0\/f=1\/f=2\/f=3\/f=4\/f=5\/f=6\/f=7\/f=8\/f=9\/f=10\/f=11\/f=12\/f=13\/f=14\/f=15:=by omega
 rcases h with h|h|h|h|h|h|h|h|h|h|h|h|h|h|h|h <;> subst h <;> decide+kernel
theorem Qev {a b f s:Int} {n:Nat} (h:¬Q0D a b f s n=true):false=Q2t a b f s n:=by simp[Q2t,h]
theorem Q62 {a b f s:Int} {n:Nat} (h:Q0D a b f s n=true):(bits .and .i64 f 3==1)=Q2t a b f s n:=by simp[Q2t,h]
theorem QdB {a b f s:Int} {n:Nat} (h:Q0D a b f s n=true) (h1:¬(bits .and .i64 f 1 !=0)=true):false=Q2t a b f s n:=by
 have q:=Q3J.1 h;rw[<-Q62 h,<-Q8Q f q.2.1 q.2.2.1];simp[Bool.eq_false_iff.2 h1]
theorem Qbb {a b f s:Int} {n:Nat} (h:Q0D a b f s n=true) (c:(bits .and .i64 f 1 !=0)=true):(!(bits .and .i64 f 2 !=0))=Q2t a b f s n:=by
 have q:=Q3J.1 h;rw[<-Q62 h,<-Q8Q f q.2.1 q.2.2.1,c,Bool.true_and]
theorem Q5F (a b f s:Int) (o:Option Addr) (len cap:Nat) (w:World) (l:len<=maxLen):
  Calls Tryz.prog 14 #[pkt a b f s (.slice o len cap)] w fun e r=>e=.returned (.bool (Q2t a b f s len))/\Below w.heap.size w r:=by
 have c:Below w.heap.size w w:=KBq
 by_cases h:Q0D a b f s len=true
 ·by_cases h1:(bits .and .i64 f 1 !=0)=true
  ·have p:=Q02 (Qbb h h1)
   go_enter Tryz.func14,Tryz.ntmps14;go_wp2_with (first|(go_at_call 38;refine(Q1o a b f s o len cap _ l).mono ?_;rintro e g ⟨rfl,d⟩;obtain⟨m,n⟩:=Q3L d;have j:w.heap.size < g.heap.size:=(by have i:=d.size;(try simp at i);omega);have c:Below w.heap.size w g:=(by refine Below.trans ?_ (d.mono (by have hs:=c.size;(try simp) <;> omega));(repeat (first|with_reducible (first|exact c|exact KBq|refine KHq ?_|refine below_drewN ?_ _|refine KOq ?_ ?_ _|refine KNq ?_ ?_ _)|(focus (simp;first|done|omega))|omega))))|go_in);go_ret
   exact⟨Q08 p.out,by(repeat (first|with_reducible (first|exact c|exact KBq|refine KHq ?_|refine below_drewN ?_ _|refine KOq ?_ ?_ _|refine KNq ?_ ?_ _)|(focus (simp;first|done|omega))|omega))⟩
  ·have k:=Q02 (QdB h h1)
   have q:=Bool.eq_false_iff.2 h1;go_enter Tryz.func14,Tryz.ntmps14
   go_wp2_with (first|(go_at_call 38;refine(Q1o a b f s o len cap _ l).mono ?_;rintro e g ⟨rfl,d⟩;obtain⟨m,n⟩:=Q3L d;have j:w.heap.size < g.heap.size:=(by have i:=d.size;(try simp at i);omega);have c:Below w.heap.size w g:=(by refine Below.trans ?_ (d.mono (by have hs:=c.size;(try simp) <;> omega));(repeat (first|with_reducible (first|exact c|exact KBq|refine KHq ?_|refine below_drewN ?_ _|refine KOq ?_ ?_ _|refine KNq ?_ ?_ _)|(focus (simp;first|done|omega))|omega))))|go_in);go_ret
   exact⟨Q08 k.out,by(repeat (first|with_reducible (first|exact c|exact KBq|refine KHq ?_|refine below_drewN ?_ _|refine KOq ?_ ?_ _|refine KNq ?_ ?_ _)|(focus (simp;first|done|omega))|omega))⟩
 ·have k:=Q02 (Qev h)
  go_enter Tryz.func14,Tryz.ntmps14;go_wp2_with (first|(go_at_call 38;refine(Q1o a b f s o len cap _ l).mono ?_;rintro e g ⟨rfl,d⟩;obtain⟨m,n⟩:=Q3L d;have j:w.heap.size < g.heap.size:=(by have i:=d.size;(try simp at i);omega);have c:Below w.heap.size w g:=(by refine Below.trans ?_ (d.mono (by have hs:=c.size;(try simp) <;> omega));(repeat (first|with_reducible (first|exact c|exact KBq|refine KHq ?_|refine below_drewN ?_ _|refine KOq ?_ ?_ _|refine KNq ?_ ?_ _)|(focus (simp;first|done|omega))|omega))))|go_in);go_ret
  exact⟨Q08 k.out,by(repeat (first|with_reducible (first|exact c|exact KBq|refine KHq ?_|refine below_drewN ?_ _|refine KOq ?_ ?_ _|refine KNq ?_ ?_ _)|(focus (simp;first|done|omega))|omega))⟩
end Go.Proofs.YtpneolgdghbinaaGreat
