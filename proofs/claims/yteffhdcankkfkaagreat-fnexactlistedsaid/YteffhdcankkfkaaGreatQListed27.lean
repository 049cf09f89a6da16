/- MailOk, the model's and the program's. -/
import Derived.Test.YteffhdcankkfkaaGreatQListed23
import Derived.Test.YteffhdcankkfkaaGreatQListed06
namespace Go.Proofs.YteffhdcankkfkaaGreat
open Go.ChangeShapes Go.WideShapes Go.ChangeAt Go.RowKit Go.Joins
set_option linter.unusedVariables false
set_option linter.unusedSimpArgs false
set_option maxRecDepth 100000
set_option maxHeartbeats 40000000
abbrev mlv (k a b f s:Int) (vl vg:Value) (pl st fa fp bk:Int):Value:=.agg #[.int .i64 k,.int .i64 a,.int .i64 b,.int .i64 f,.int .i64 s,vl,vg,.int .i64 pl,.int .i64 st,.int .i64 fa,.int .i64 fp,.int .i64 bk]
def Q2s (a b f s:Int) (len gl:Nat) (pl st:Int):Bool:=decide (a=0) && decide (b=0) && decide (f=0) && decide (s=0) && decide (len=0) && decide (gl=0) && decide (pl=0) && decide (st=0)
def Q4M (k a b f s:Int) (len:Nat) (g:List (Int × Int)) (pl st fa fp bk:Int):Bool:=(decide (k=0) && Q19 a b f s len g pl st && decide (fa=0) && decide (fp=0) && decide (bk=0))||(decide (k=1) && Q0g fa fp && decide (0<=bk) && decide (bk < 6) && Q2s a b f s len g.length pl st)
theorem Qd7 {a b f s:Int} {len gl:Nat} {pl st:Int}:Q2s a b f s len gl pl st=true↔a=0/\b=0/\f=0/\s=0/\len=0/\gl=0/\pl=0/\st=0:=by simp[Q2s,and_assoc]
theorem QaK {a b f s:Int} {len:Nat} {g:List (Int × Int)} {pl st fa fp bk:Int}:Q4M 0 a b f s len g pl st fa fp bk=(Q19 a b f s len g pl st && decide (fa=0) && decide (fp=0) && decide (bk=0)):=by simp[Q4M]
theorem Qcp {a b f s:Int} {len:Nat} {g:List (Int × Int)} {pl st fa fp bk:Int}:Q4M 1 a b f s len g pl st fa fp bk=(Q0g fa fp && decide (0<=bk) && decide (bk < 6) && Q2s a b f s len g.length pl st):=by simp[Q4M]
theorem Q9K {k a b f s:Int} {len:Nat} {g:List (Int × Int)} {pl st fa fp bk:Int} (h0:k≠0) (h1:k≠1):Q4M k a b f s len g pl st fa fp bk=false:=by simp[Q4M,h0,h1]
theorem Q7x (k a b f s:Int) (o z:Option Addr) (len cap M:Nat) (g:List (Int × Int)) (pl st fa fp bk:Int) (w:World) (V:len<=maxLen) (x:g.length<=maxLen) (T:RdG w z g):
  Calls Tryz.prog 72 #[mlv k a b f s (.slice o len cap) (.slice z g.length M) pl st fa fp bk] w fun e X=>e=.returned (.bool (Q4M k a b f s len g pl st fa fp bk))/\Below w.heap.size w X:=by
 obtain⟨gl,u⟩:∃n,g.length=n:=⟨_,rfl⟩;have L:=Q00 u;have l:=Q00 (fun W (c:Below w.heap.size w W)=>Q5p a b f s o z len cap M g pl st W V x (T.kept c));rw[u]at l ⊢;clear u T x;obtain⟨R,r⟩:∃W,(w.alloc (.cells #[.int .i64 k,.int .i64 a,.int .i64 b,.int .i64 f,.int .i64 s,.slice o len cap,.slice z gl M,.int .i64 pl,.int .i64 st,.int .i64 fa,.int .i64 fp,.int .i64 bk] 113))=W:=⟨_,rfl⟩;have m:=alb0v0v1 r;have h:=Q00 m;clear m;have d:=alz0v0v1 r;obtain⟨A,B,C,D,E,F,G,H,I,J,p,q⟩:=alc12v0v1 r
 by_cases h0:k=0
 ·subst h0
  have v:=Q00 (l.out R h.out);go_enter Tryz.func72,Tryz.ntmps72;go_wp2_with fail;refine(v.out).mono ?_;rintro e P ⟨rfl,c⟩;replace A:=bKq0v0v0 c A d;replace B:=bKq0v0v0 c B d;replace C:=bKq0v0v0 c C d;replace D:=bKq0v0v0 c D d;replace E:=bKq0v0v0 c E d;replace F:=bKq0v0v0 c F d;replace G:=bKq0v0v0 c G d;replace H:=bKq0v0v0 c H d;replace I:=bKq0v0v0 c I d;replace J:=bKq0v0v0 c J d;replace p:=bKq0v0v0 c p d;replace q:=bKq0v0v0 c q d;replace d:w.heap.size < P.heap.size:=Kbq d c.size
  replace h:=Q00 (h.out.trans (c.mono h.out.size));clear c;have i:=Q00 (QaK (a:=a) (b:=b) (f:=f) (s:=s) (len:=len) (g:=g) (pl:=pl) (st:=st) (fa:=fa) (fp:=fp) (bk:=bk));obtain⟨t,y⟩:∃t,Q19 a b f s len g pl st=t:=⟨_,rfl⟩;rw[y]at i ⊢;clear y v l
  cases t with
  |false=>
   go_wp2;go_ret;exact⟨Q03 (by rw[i.out];rfl),h.out⟩
  |true=>
   by_cases h1:fa=0
   ·subst h1
    by_cases h2:fp=0
    ·subst h2
     by_cases h3:bk=0
     ·subst h3
      go_wp2;go_ret;exact⟨Q03 (by rw[i.out];simp),h.out⟩
     ·go_wp2
      go_ret;exact⟨Q03 (by have j:decide (bk=0)=false:=decide_eq_false (by omega);rw[i.out,j];simp <;> omega),h.out⟩
    ·go_wp2
     go_ret;exact⟨Q03 (by have j:decide (fp=0)=false:=decide_eq_false (by omega);rw[i.out,j];simp <;> omega),h.out⟩
   ·go_wp2
    go_ret;exact⟨Q03 (by have j:decide (fa=0)=false:=decide_eq_false (by omega);rw[i.out,j];simp <;> omega),h.out⟩
 ·by_cases h1:k=1
  ·subst h1
   have v:=Q00 (Q0s fa fp R);go_enter Tryz.func72,Tryz.ntmps72;go_wp2_with fail;refine(v.out).mono ?_;rintro e P ⟨rfl,c⟩;replace A:=bKq0v0v0 c A d;replace B:=bKq0v0v0 c B d;replace C:=bKq0v0v0 c C d;replace D:=bKq0v0v0 c D d;replace E:=bKq0v0v0 c E d;replace F:=bKq0v0v0 c F d;replace G:=bKq0v0v0 c G d;replace H:=bKq0v0v0 c H d;replace I:=bKq0v0v0 c I d;replace J:=bKq0v0v0 c J d;replace p:=bKq0v0v0 c p d;replace q:=bKq0v0v0 c q d;replace d:w.heap.size < P.heap.size:=Kbq d c.size;replace h:=Q00 (h.out.trans (c.mono h.out.size))
   clear c;have i:=Q00 (Qcp (a:=a) (b:=b) (f:=f) (s:=s) (len:=len) (g:=g) (pl:=pl) (st:=st) (fa:=fa) (fp:=fp) (bk:=bk));rw[L.out]at i;obtain⟨t,y⟩:∃t,Q0g fa fp=t:=⟨_,rfl⟩;rw[y]at i ⊢;clear y v l h0
   cases t with
   |false=>
    go_wp2;go_ret;exact⟨Q03 (by rw[i.out];rfl),h.out⟩
   |true=>
    have U:=Q00 (Qd7 (a:=a) (b:=b) (f:=f) (s:=s) (len:=len) (gl:=gl) (pl:=pl) (st:=st))
    by_cases q0:0<=bk
    ·by_cases q1:bk < 6
     ·by_cases q2:gl=0
      ·subst q2
       by_cases q3:pl=0
       ·subst q3
        by_cases q4:st=0
        ·subst q4
         by_cases q5:len=0
         ·subst q5
          by_cases q6:a=0
          ·subst q6
           by_cases q7:b=0
           ·subst q7
            by_cases q8:f=0
            ·subst q8
             by_cases q9:s=0
             ·subst q9
              go_wp2
              all_goals go_ret
              all_goals exact⟨Q03 (by have N:decide (0<=bk)=true:=decide_eq_true (by omega);have O:decide (bk < 6)=true:=decide_eq_true (by omega);rw[i.out,N,O];simp[Q2s]),h.out⟩
             ·skip
              go_wp2
              all_goals go_ret
              all_goals exact⟨Q03 (by have j:decide (s=0)=false:=decide_eq_false (by omega);rw[i.out];unfold Q2s;rw[j];simp <;> omega),h.out⟩
            ·skip
             go_wp2
             all_goals go_ret
             all_goals exact⟨Q03 (by have j:decide (f=0)=false:=decide_eq_false (by omega);rw[i.out];unfold Q2s;rw[j];simp <;> omega),h.out⟩
           ·skip
            go_wp2
            all_goals go_ret
            all_goals exact⟨Q03 (by have j:decide (b=0)=false:=decide_eq_false (by omega);rw[i.out];unfold Q2s;rw[j];simp <;> omega),h.out⟩
          ·skip
           go_wp2
           all_goals go_ret
           all_goals exact⟨Q03 (by have j:decide (a=0)=false:=decide_eq_false (by omega);rw[i.out];unfold Q2s;rw[j];simp <;> omega),h.out⟩
         ·skip
          go_wp2
          all_goals go_ret
          all_goals exact⟨Q03 (by have j:decide (len=0)=false:=decide_eq_false (by omega);rw[i.out];unfold Q2s;rw[j];simp <;> omega),h.out⟩
        ·skip
         go_wp2
         all_goals go_ret
         all_goals exact⟨Q03 (by have j:decide (st=0)=false:=decide_eq_false (by omega);rw[i.out];unfold Q2s;rw[j];simp <;> omega),h.out⟩
       ·skip
        go_wp2
        all_goals go_ret
        all_goals exact⟨Q03 (by have j:decide (pl=0)=false:=decide_eq_false (by omega);rw[i.out];unfold Q2s;rw[j];simp <;> omega),h.out⟩
      ·skip
       go_wp2
       all_goals go_ret
       all_goals exact⟨Q03 (by have j:decide (gl=0)=false:=decide_eq_false (by omega);rw[i.out];unfold Q2s;rw[j];simp <;> omega),h.out⟩
     ·skip
      go_wp2
      all_goals go_ret
      all_goals exact⟨Q03 (by have O:decide (bk < 6)=false:=decide_eq_false (by omega);rw[i.out,O];simp <;> omega),h.out⟩
    ·skip
     go_wp2
     all_goals go_ret
     all_goals exact⟨Q03 (by have N:decide (0<=bk)=false:=decide_eq_false (by omega);rw[i.out,N];simp <;> omega),h.out⟩
  ·have i:=Q00 (Q9K (a:=a) (b:=b) (f:=f) (s:=s) (len:=len) (g:=g) (pl:=pl) (st:=st) (fa:=fa) (fp:=fp) (bk:=bk) h0 h1)
   clear l;go_enter Tryz.func72,Tryz.ntmps72;go_wp2;go_ret;exact⟨Q03 (by rw[i.out]),h.out⟩
theorem Q8Q (a b f s:Int) (o q:Option Addr) (len cap gl p:Nat) (pl st:Int) (w:World):
  Calls Tryz.prog 236 #[crr a b f s (.slice o len cap) (.slice q gl p) pl st] w fun e r=>e=.returned (.bool (Q2s a b f s len gl pl st))/\Below w.heap.size w r:=by
 have c:Below w.heap.size w w:=KBq
 have k:=fun w=>Q7r a b f s o len cap w
 have n:Q2s a b f s len gl pl st=(Q4x a b f s len && decide (gl=0) && decide (pl=0) && decide (st=0)):=rfl;rw[n];clear n;generalize Q4x a b f s len=NP at *
 cases NP
 ·skip
  go_enter Tryz.func236,Tryz.ntmps236;go_wp2_with (first|(go_at_call 253;refine(k _).mono ?_;rintro e g ⟨rfl,d⟩;obtain⟨l,m⟩:=Q0F d;have i:w.heap.size < g.heap.size:=(by have h:=d.size;(try simp at h);omega);have c:Below w.heap.size w g:=(by refine Below.trans ?_ (d.mono (by have hs:=c.size;(try simp) <;> omega));(repeat (first|with_reducible (first|exact c|exact KBq|refine KHq ?_|refine below_drewN ?_ _|refine KOq ?_ ?_ _|refine KNq ?_ ?_ _)|(focus (simp;first|done|omega))|omega)))))
  all_goals go_ret
  all_goals exact⟨Q03 (by simp),by(repeat (first|with_reducible (first|exact c|exact KBq|refine KHq ?_|refine below_drewN ?_ _|refine KOq ?_ ?_ _|refine KNq ?_ ?_ _)|(focus (simp;first|done|omega))|omega))⟩
 ·by_cases q5:gl=0
  ·subst q5
   by_cases q6:pl=0
   ·subst q6
    by_cases q7:st=0
    ·subst q7
     go_enter Tryz.func236,Tryz.ntmps236;go_wp2_with (first|(go_at_call 253;refine(k _).mono ?_;rintro e g ⟨rfl,d⟩;obtain⟨l,m⟩:=Q0F d;have i:w.heap.size < g.heap.size:=(by have h:=d.size;(try simp at h);omega);have c:Below w.heap.size w g:=(by refine Below.trans ?_ (d.mono (by have hs:=c.size;(try simp) <;> omega));(repeat (first|with_reducible (first|exact c|exact KBq|refine KHq ?_|refine below_drewN ?_ _|refine KOq ?_ ?_ _|refine KNq ?_ ?_ _)|(focus (simp;first|done|omega))|omega)))))
     all_goals go_ret
     all_goals exact⟨Q03 (by simp),by(repeat (first|with_reducible (first|exact c|exact KBq|refine KHq ?_|refine below_drewN ?_ _|refine KOq ?_ ?_ _|refine KNq ?_ ?_ _)|(focus (simp;first|done|omega))|omega))⟩
    ·skip
     go_enter Tryz.func236,Tryz.ntmps236;go_wp2_with (first|(go_at_call 253;refine(k _).mono ?_;rintro e g ⟨rfl,d⟩;obtain⟨l,m⟩:=Q0F d;have i:w.heap.size < g.heap.size:=(by have h:=d.size;(try simp at h);omega);have c:Below w.heap.size w g:=(by refine Below.trans ?_ (d.mono (by have hs:=c.size;(try simp) <;> omega));(repeat (first|with_reducible (first|exact c|exact KBq|refine KHq ?_|refine below_drewN ?_ _|refine KOq ?_ ?_ _|refine KNq ?_ ?_ _)|(focus (simp;first|done|omega))|omega)))))
     all_goals go_ret
     all_goals exact⟨Q03 (by have j:decide (st=0)=false:=decide_eq_false (by omega);rw[j];simp <;> omega),by(repeat (first|with_reducible (first|exact c|exact KBq|refine KHq ?_|refine below_drewN ?_ _|refine KOq ?_ ?_ _|refine KNq ?_ ?_ _)|(focus (simp;first|done|omega))|omega))⟩
   ·skip
    go_enter Tryz.func236,Tryz.ntmps236;go_wp2_with (first|(go_at_call 253;refine(k _).mono ?_;rintro e g ⟨rfl,d⟩;obtain⟨l,m⟩:=Q0F d;have i:w.heap.size < g.heap.size:=(by have h:=d.size;(try simp at h);omega);have c:Below w.heap.size w g:=(by refine Below.trans ?_ (d.mono (by have hs:=c.size;(try simp) <;> omega));(repeat (first|with_reducible (first|exact c|exact KBq|refine KHq ?_|refine below_drewN ?_ _|refine KOq ?_ ?_ _|refine KNq ?_ ?_ _)|(focus (simp;first|done|omega))|omega)))))
    all_goals go_ret
    all_goals exact⟨Q03 (by have j:decide (pl=0)=false:=decide_eq_false (by omega);rw[j];simp <;> omega),by(repeat (first|with_reducible (first|exact c|exact KBq|refine KHq ?_|refine below_drewN ?_ _|refine KOq ?_ ?_ _|refine KNq ?_ ?_ _)|(focus (simp;first|done|omega))|omega))⟩
  ·skip
   go_enter Tryz.func236,Tryz.ntmps236;go_wp2_with (first|(go_at_call 253;refine(k _).mono ?_;rintro e g ⟨rfl,d⟩;obtain⟨l,m⟩:=Q0F d;have i:w.heap.size < g.heap.size:=(by have h:=d.size;(try simp at h);omega);have c:Below w.heap.size w g:=(by refine Below.trans ?_ (d.mono (by have hs:=c.size;(try simp) <;> omega));(repeat (first|with_reducible (first|exact c|exact KBq|refine KHq ?_|refine below_drewN ?_ _|refine KOq ?_ ?_ _|refine KNq ?_ ?_ _)|(focus (simp;first|done|omega))|omega)))))
   all_goals go_ret
   all_goals exact⟨Q03 (by have j:decide (gl=0)=false:=decide_eq_false (by omega);rw[j];simp <;> omega),by(repeat (first|with_reducible (first|exact c|exact KBq|refine KHq ?_|refine below_drewN ?_ _|refine KOq ?_ ?_ _|refine KNq ?_ ?_ _)|(focus (simp;first|done|omega))|omega))⟩
theorem Q7z (k a b f s:Int) (o C:Option Addr) (len cap E:Nat) (g:List (Int × Int)) (pl st fa fp bk:Int) (w:World) (Y:len<=maxLen) (A:g.length<=maxLen) (X:RdG w C g):
  Calls Tryz.prog 208 #[mlv k a b f s (.slice o len cap) (.slice C g.length E) pl st fa fp bk] w fun e D=>e=.returned (.bool (Q4M k a b f s len g pl st fa fp bk))/\Below w.heap.size w D:=by
 obtain⟨gl,x⟩:∃n,g.length=n:=⟨_,rfl⟩;have R:=Q00 x;have l:=Q00 (fun W (c:Below w.heap.size w W)=>Q5n a b f s o C len cap E g pl st W Y A (X.kept c));rw[x]at l ⊢;clear x X A;obtain⟨V,v⟩:∃W,(w.alloc (.cells #[.int .i64 k,.int .i64 a,.int .i64 b,.int .i64 f,.int .i64 s,.slice o len cap,.slice C gl E,.int .i64 pl,.int .i64 st,.int .i64 fa,.int .i64 fp,.int .i64 bk] 113))=W:=⟨_,rfl⟩;have m:=alb0v0v1 v;have i:=Q00 m;clear m;have d:=alz0v0v1 v;obtain⟨F,G,H,I,J,L,M,N,O,P,q,r⟩:=alc12v0v1 v
 by_cases h0:k=0
 ·subst h0
  have y:=Q00 (l.out V i.out);go_enter Tryz.func208,Tryz.ntmps208;go_wp2_with fail;refine(y.out).mono ?_;rintro e p ⟨rfl,c⟩;replace F:=bKq0v0v0 c F d;replace G:=bKq0v0v0 c G d;replace H:=bKq0v0v0 c H d;replace I:=bKq0v0v0 c I d;replace J:=bKq0v0v0 c J d;replace L:=bKq0v0v0 c L d;replace M:=bKq0v0v0 c M d;replace N:=bKq0v0v0 c N d;replace O:=bKq0v0v0 c O d;replace P:=bKq0v0v0 c P d;replace q:=bKq0v0v0 c q d;replace r:=bKq0v0v0 c r d;replace d:w.heap.size < p.heap.size:=Kbq d c.size
  replace i:=Q00 (i.out.trans (c.mono i.out.size));clear c;have j:=Q00 (QaK (a:=a) (b:=b) (f:=f) (s:=s) (len:=len) (g:=g) (pl:=pl) (st:=st) (fa:=fa) (fp:=fp) (bk:=bk));obtain⟨t,B⟩:∃t,Q19 a b f s len g pl st=t:=⟨_,rfl⟩;rw[B]at j ⊢;clear B y l
  cases t with
  |false=>
   go_wp2;go_ret;exact⟨Q03 (by rw[j.out];rfl),i.out⟩
  |true=>
   by_cases h1:fa=0
   ·subst h1
    by_cases h2:fp=0
    ·subst h2
     by_cases h3:bk=0
     ·subst h3
      go_wp2;go_ret;exact⟨Q03 (by rw[j.out];simp),i.out⟩
     ·go_wp2
      go_ret;exact⟨Q03 (by have z:decide (bk=0)=false:=decide_eq_false (by omega);rw[j.out,z];simp <;> omega),i.out⟩
    ·go_wp2
     go_ret;exact⟨Q03 (by have z:decide (fp=0)=false:=decide_eq_false (by omega);rw[j.out,z];simp <;> omega),i.out⟩
   ·go_wp2
    go_ret;exact⟨Q03 (by have z:decide (fa=0)=false:=decide_eq_false (by omega);rw[j.out,z];simp <;> omega),i.out⟩
 ·by_cases h1:k=1
  ·subst h1
   have y:=Q00 (Q0v fa fp V);go_enter Tryz.func208,Tryz.ntmps208;go_wp2_with fail;refine(y.out).mono ?_;rintro e p ⟨rfl,c⟩;replace F:=bKq0v0v0 c F d;replace G:=bKq0v0v0 c G d;replace H:=bKq0v0v0 c H d;replace I:=bKq0v0v0 c I d;replace J:=bKq0v0v0 c J d;replace L:=bKq0v0v0 c L d;replace M:=bKq0v0v0 c M d;replace N:=bKq0v0v0 c N d;replace O:=bKq0v0v0 c O d;replace P:=bKq0v0v0 c P d;replace q:=bKq0v0v0 c q d;replace r:=bKq0v0v0 c r d;replace d:w.heap.size < p.heap.size:=Kbq d c.size;replace i:=Q00 (i.out.trans (c.mono i.out.size))
   clear c;have j:=Q00 (Qcp (a:=a) (b:=b) (f:=f) (s:=s) (len:=len) (g:=g) (pl:=pl) (st:=st) (fa:=fa) (fp:=fp) (bk:=bk));rw[R.out]at j;obtain⟨t,B⟩:∃t,Q0g fa fp=t:=⟨_,rfl⟩;rw[B]at j ⊢;clear B y l h0
   cases t with
   |false=>
    go_wp2;go_ret;exact⟨Q03 (by rw[j.out];rfl),i.out⟩
   |true=>
    by_cases q0:0<=bk/\bk < 6
    ·have u:Hid (Calls Tryz.prog 62 #[.int .i64 bk] p fun e D=>e=.returned (.bool true)/\p=D):=by
      have h:=Q1U bk p;rw[decide_eq_true q0.1,decide_eq_true q0.2]at h;exact h
     go_wp2_with fail;refine u.out.mono ?_;rintro e _ ⟨rfl,rfl⟩;have T:=Q00 (Q8Q a b f s o C len cap gl E pl st p);go_wp2_with fail;refine T.out.mono ?_;rintro e Z ⟨rfl,c⟩;replace i:=Q00 (i.out.trans (c.mono i.out.size));go_wp2;go_ret;exact⟨Q03 (by rw[j.out,decide_eq_true q0.1,decide_eq_true q0.2];simp),i.out⟩
    ·have u:Hid (Calls Tryz.prog 62 #[.int .i64 bk] p fun e D=>e=.returned (.bool false)/\p=D):=by
      have h:=Q1U bk p
      have U:(decide (0<=bk) && decide (bk < 6))=false:=by rw[Bool.and_eq_false_iff];simp only[decide_eq_false_iff_not];omega
      rw[U]at h;exact h
     go_wp2_with fail;refine u.out.mono ?_;rintro e _ ⟨rfl,rfl⟩;go_wp2;go_ret;exact⟨Q03 (by rw[j.out];have U:(decide (0<=bk) && decide (bk < 6))=false:=(by rw[Bool.and_eq_false_iff];simp only[decide_eq_false_iff_not];omega);rw[Bool.true_and,U];rfl),i.out⟩
  ·have j:=Q00 (Q9K (a:=a) (b:=b) (f:=f) (s:=s) (len:=len) (g:=g) (pl:=pl) (st:=st) (fa:=fa) (fp:=fp) (bk:=bk) h0 h1)
   clear l;go_enter Tryz.func208,Tryz.ntmps208;go_wp2;go_ret;exact⟨Q03 (by rw[j.out]),i.out⟩
end Go.Proofs.YteffhdcankkfkaaGreat
