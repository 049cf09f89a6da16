/- What the calls of the law FnCrashes take of a balancer that reads. -/
import Derived.Test.YtpneolgdghbinaaGreatQCrashesL43
import Derived.Test.YtpneolgdghbinaaGreatQCrashesL46
namespace Go.Proofs.YtpneolgdghbinaaGreat
open Go.ChangeShapes Go.WideShapes Go.ChangeAt Go.RowKit Go.Joins
set_option linter.unusedVariables false
set_option linter.unusedSimpArgs false
set_option maxRecDepth 100000
set_option maxHeartbeats 40000000
theorem Qaz {v:Value} {m:Bm} {w:World} (h:BalRd w v m):
  Calls Tryz.prog 9 #[v] w fun e y=>e=.returned (.bool (Q1S m))/\Below w.heap.size w y:=by
 obtain⟨o,c,n,g,b,k,i,a,q,d,rfl,r,s,u,x,f⟩:=h;exact Q9U m.j.key o m.j.l.length c m.j.safe m.p.key n g b k i a q m.t.length d m.j.l m.p.l m.p.ring m.t w rfl rfl r s u x f
theorem Q6B {v:Value} {m:Bm} {w:World} (keep:Int) (h:BalRd w v m):
  Calls Tryz.prog 27 #[v,.int .i64 keep] w fun e a=> ∃v,e=.returned v/\InBm w.heap.size a.heap.size a v (Q2e m keep)/\Below w.heap.size w a:=by
 obtain⟨o,c,q,i,d,n,k,b,r,f,rfl,s,u,x,y,g⟩:=h;exact Q9t m.j.key o m.j.l.length c m.j.safe m.p.key q i d n k b r m.t.length f m.j.l m.p.l m.p.ring m.t keep w rfl rfl s u x y g
theorem Q9e {v:Value} {m:Bm} {w:World} (k i g:Int) (h:BalRd w v m):
  Calls Tryz.prog 31 #[v,cmd k i g] w fun e a=> ∃v,e=.returned (.tuple #[v,.bool (Qaf m k i g)])/\InBm w.heap.size a.heap.size a v (Q1U m k i g)/\Below w.heap.size w a:=by
 obtain⟨o,c,u,q,d,s,r,b,x,f,rfl,y,z,A,B,n⟩:=h;exact Q4Z m.j.key o m.j.l.length c m.j.safe m.p.key u q d s r b x m.t.length f m.j.l m.p.l m.p.ring m.t k i g w rfl rfl y z A B n
theorem Q8A {v:Value} {m:Bm} {w:World} (now:Int) (h:BalRd w v m):
  Calls Tryz.prog 32 #[v,.int .i64 now] w fun e a=> ∃v',e=.returned (.tuple #[v',.int .i64 (Q7v m now)])/\InBm w.heap.size a.heap.size a v' (Q7t m now)/\Below w.heap.size w a:=by
 obtain⟨o,c,q,i,d,n,k,b,r,f,rfl,s,u,x,y,g⟩:=h;exact Q8g m.j.key o m.j.l.length c m.j.safe m.p.key q i d n k b r m.t.length f m.j.l m.p.l m.p.ring m.t now w rfl rfl s u x y g
theorem BalRd.jrn {w:World} {a:Int} {d:Value} {b k:Int} {n p q:Value} {m:Bm} (h:BalRd w (Q0R a d b k n p q) m):RdJm w.heap.size w (jrn a d b) m.j:=by
 obtain⟨o,c,z,v,s,y,x,r,A,t,e,l,B,C,D,u⟩:=h;simp only[Value.agg.injEq,Array.mk.injEq,List.cons.injEq,and_true,true_and,Value.int.injEq]at e;obtain⟨f,g,i,_⟩:=e;rw[f,g,i];exact⟨_,rfl,⟨o,c,rfl,l⟩⟩
theorem Qdt {d:Int} {o:Option Addr} {a c:Nat} {f n:Int} {q r s:Value} {m:Bm} {w:World} (keep:Int) (l:a<=c) (h:BalRd w (Q0R d (.slice o a c) f n q r s) m):
  Calls Tryz.prog 29 #[jrn d (.slice o a c) f,.int .i64 keep] w fun e b=> ∃v',e=.returned v'/\InJm w.heap.size b.heap.size b v' (Q50 m.j keep)/\Below w.heap.size w b:=by
 have k:=h.jrn;obtain⟨A,t,C,y,v,B,z,u,D,x,e,E,p,F,G,i⟩:=h;simp only[Value.agg.injEq,Array.mk.injEq,List.cons.injEq,and_true,true_and,Value.int.injEq]at e;obtain⟨_,g,_⟩:=e;injection g with e21 e22 e23;exact Q8K _ m.j keep w k ⟨_,_,_,_,_,rfl,l,fun h=>by rw[e23];exact p (by rw[<-e21];exact h)⟩ i.1
theorem Q8y {f:Int} {k:Value} {i g:Int} {j l:Value} {b:Option Addr} {c a:Nat} {m:Bm} {w:World} (h:BalRd w (Q0R f k i g j l (.slice b c a)) m):
  Calls Tryz.prog 33 #[tab (.slice b c a)] w fun e n=>e=.returned (.int .i64 (Q54 m.t))/\Below w.heap.size w n:=by
 obtain⟨e,r,d⟩:=h.tab;subst e;exact Q7u b a m.t w r d
theorem Q7D {m:Pm} {a b:Value} {w:World} (d:Q1X m=true) (c:Q4X w.heap.size w a m) (h2:Q4X w.heap.size w b m) (f:Q2B m):
  Calls Tryz.prog 25 #[a,b] w fun e g=>e=.returned (.bool true)/\Below w.heap.size w g:=
 Qba a b m w c h2 f (fun i hi=>(Q4H ((Q1w d).2.2.2.2 i hi)).1)
theorem InBm.poolc {lo hi:Nat} {w:World} {j:Int} {n:Value} {k a:Int} {b c s:Value} {m:Bm} (h:InBm lo hi w (Q0R j n k a b c s) m) (i:hi<=w.heap.size):Q4X w.heap.size w (plv a b c) m.p:=by
 obtain⟨q,l,r,t,e,u,h2,v⟩:=h.rd;simp only[Value.agg.injEq,Array.mk.injEq,List.cons.injEq,and_true,true_and,Value.int.injEq]at e;obtain⟨_,_,_,d,f,g,_⟩:=e;rw[d,f,g];exact h2.le i
def PlRd (w:World) (v:Value) (m:Pm):Prop:=Q4X w.heap.size w v m
theorem PlRd.kept {w w':World} {v:Value} {m:Pm} (h:PlRd w v m) (hb:Below w.heap.size w w'):PlRd w' v m:=by
 have h':Q4X w.heap.size w v m:=h;exact(h'.kept hb (Kaq _)).le hb.size
theorem Qe0 {m:Bm} {keep:Int} (b:Q1S m=true) (h:0<=keep):(Q2e m keep).p=Q0z (Q50 m.j keep)/\Q1S (Q2e m keep)=true/\Q54 (Q2e m keep).t=0/\Q0g (Q50 m.j keep).key (Q50 m.j keep).l (Q50 m.j keep).safe=true/\Q1X (Q0z (Q50 m.j keep))=true/\Q6W (Q50 m.j keep):=by
 obtain⟨a,c,d,f,g⟩:=QaK b h;exact⟨by rw[a];rfl,by rw[a];exact d,by rw[a];exact f,c,g,QcA keep (Q6x b).b0.1⟩
theorem QdO (kj sj kp:Int) (vl vb vr vt:Value) (w:World):(Instr.field 34 (Q0R kj vl sj kp vb vr vt) 1).run Tryz.prog w=.ok (plv kp vb vr) w:=by kernel_rfl
end Go.Proofs.YtpneolgdghbinaaGreat
