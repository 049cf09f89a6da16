/- What the calls of the law FnCrashes take of a balancer that reads. -/
import Derived.Test.YtpneolgdghbinaaGreatQCrashesL43
import Derived.Test.YtpneolgdghbinaaGreatQCrashesL46
namespace Go.Proofs.YtpneolgdghbinaaGreat
open Go.ChangeShapes Go.WideShapes Go.ChangeAt Go.RowKit Go.Joins
set_option linter.unusedVariables false
set_option linter.unusedSimpArgs false
set_option maxRecDepth 100000
set_option maxHeartbeats 40000000
theorem Q9P {v:Value} {m:Bm} {w:World} (h:BalRd w v m):
  Calls Tryz.prog 9 #[v] w fun e y=>e=.returned (.bool (Q1J m))/\Below w.heap.size w y:=by
 obtain⟨o,c,n,g,b,k,i,a,q,d,rfl,r,s,u,x,f⟩:=h;exact Q9h m.j.key o m.j.l.length c m.j.safe m.p.key n g b k i a q m.t.length d m.j.l m.p.l m.p.ring m.t w rfl rfl r s u x f
theorem Q6y {v:Value} {m:Bm} {w:World} (keep:Int) (h:BalRd w v m):
  Calls Tryz.prog 27 #[v,.int .i64 keep] w fun e a=> ∃v,e=.returned v/\InBm w.heap.size a.heap.size a v (Q1Z m keep)/\Below w.heap.size w a:=by
 obtain⟨o,c,q,i,d,n,k,b,r,f,rfl,s,u,x,y,g⟩:=h;exact Q9q m.j.key o m.j.l.length c m.j.safe m.p.key q i d n k b r m.t.length f m.j.l m.p.l m.p.ring m.t keep w rfl rfl s u x y g
theorem Q9M {v:Value} {m:Bm} {w:World} (k i g:Int) (h:BalRd w v m):
  Calls Tryz.prog 31 #[v,cmd k i g] w fun e a=> ∃v,e=.returned (.tuple #[v,.bool (QaS m k i g)])/\InBm w.heap.size a.heap.size a v (Q1O m k i g)/\Below w.heap.size w a:=by
 obtain⟨o,c,u,q,d,s,r,b,x,f,rfl,y,z,A,B,n⟩:=h;exact Q4Y m.j.key o m.j.l.length c m.j.safe m.p.key u q d s r b x m.t.length f m.j.l m.p.l m.p.ring m.t k i g w rfl rfl y z A B n
theorem Q8c {v:Value} {m:Bm} {w:World} (now:Int) (h:BalRd w v m):
  Calls Tryz.prog 32 #[v,.int .i64 now] w fun e a=> ∃b,e=.returned (.tuple #[b,.int .i64 (Q7g m now)])/\InBm w.heap.size a.heap.size a b (Q7t m now)/\Below w.heap.size w a:=by
 obtain⟨o,c,r,k,f,q,n,d,s,g,rfl,u,x,y,z,i⟩:=h;exact Q7V m.j.key o m.j.l.length c m.j.safe m.p.key r k f q n d s m.t.length g m.j.l m.p.l m.p.ring m.t now w rfl rfl u x y z i
theorem BalRd.jrn {w:World} {a:Int} {d:Value} {b k:Int} {n p q:Value} {m:Bm} (h:BalRd w (Q0O a d b k n p q) m):RdJm w.heap.size w (jrn a d b) m.j:=by
 obtain⟨o,c,z,v,s,y,x,r,A,t,e,l,B,C,D,u⟩:=h;simp only[Value.agg.injEq,Array.mk.injEq,List.cons.injEq,and_true,true_and,Value.int.injEq]at e;obtain⟨f,g,i,_⟩:=e;rw[f,g,i];exact⟨_,rfl,⟨o,c,rfl,l⟩⟩
theorem Qdx {d:Int} {o:Option Addr} {a c:Nat} {f p:Int} {r s t:Value} {m:Bm} {w:World} (keep:Int) (n:a<=c) (h:BalRd w (Q0O d (.slice o a c) f p r s t) m):
  Calls Tryz.prog 29 #[jrn d (.slice o a c) f,.int .i64 keep] w fun e b=> ∃g,e=.returned g/\InJm w.heap.size b.heap.size b g (Q4W m.j keep)/\Below w.heap.size w b:=by
 have l:=h.jrn;obtain⟨B,u,D,z,x,C,A,v,E,y,e,F,q,G,H,k⟩:=h;simp only[Value.agg.injEq,Array.mk.injEq,List.cons.injEq,and_true,true_and,Value.int.injEq]at e;obtain⟨_,i,_⟩:=e;injection i with e21 e22 e23;exact Q8y _ m.j keep w l ⟨_,_,_,_,_,rfl,n,fun h=>by rw[e23];exact q (by rw[<-e21];exact h)⟩ k.1
theorem Q8j {f:Int} {k:Value} {i g:Int} {j l:Value} {b:Option Addr} {c a:Nat} {m:Bm} {w:World} (h:BalRd w (Q0O f k i g j l (.slice b c a)) m):
  Calls Tryz.prog 33 #[tab (.slice b c a)] w fun e n=>e=.returned (.int .i64 (Q4X m.t))/\Below w.heap.size w n:=by
 obtain⟨e,r,d⟩:=h.tab;subst e;exact Q77 b a m.t w r d
theorem Q7S {m:Pm} {a b:Value} {w:World} (d:Q1M m=true) (c:Q4P w.heap.size w a m) (h2:Q4P w.heap.size w b m) (f:Q2q m):
  Calls Tryz.prog 25 #[a,b] w fun e g=>e=.returned (.bool true)/\Below w.heap.size w g:=
 Qb1 a b m w c h2 f (fun i hi=>(Q4K ((Q1r d).2.2.2.2 i hi)).1)
theorem InBm.poolc {lo hi:Nat} {w:World} {j:Int} {n:Value} {k a:Int} {b c s:Value} {m:Bm} (h:InBm lo hi w (Q0O j n k a b c s) m) (i:hi<=w.heap.size):Q4P w.heap.size w (plv a b c) m.p:=by
 obtain⟨q,l,r,t,e,u,h2,v⟩:=h.rd;simp only[Value.agg.injEq,Array.mk.injEq,List.cons.injEq,and_true,true_and,Value.int.injEq]at e;obtain⟨_,_,_,d,f,g,_⟩:=e;rw[d,f,g];exact h2.le i
def PlRd (w:World) (v:Value) (m:Pm):Prop:=Q4P w.heap.size w v m
theorem PlRd.kept {w w':World} {v:Value} {m:Pm} (h:PlRd w v m) (hb:Below w.heap.size w w'):PlRd w' v m:=by
 have h':Q4P w.heap.size w v m:=h;exact(h'.kept hb (Kaq _)).le hb.size
theorem Qfh {m:Bm} {keep:Int} (b:Q1J m=true) (h:0<=keep):(Q1Z m keep).p=Q0x (Q4W m.j keep)/\Q1J (Q1Z m keep)=true/\Q4X (Q1Z m keep).t=0/\Q0f (Q4W m.j keep).key (Q4W m.j keep).l (Q4W m.j keep).safe=true/\Q1M (Q0x (Q4W m.j keep))=true/\Q6L (Q4W m.j keep):=by
 obtain⟨a,c,d,f,g⟩:=Qa5 b h;exact⟨by rw[a];rfl,by rw[a];exact d,by rw[a];exact f,c,g,QcC keep (Q64 b).b0.1⟩
theorem Qd4 (kj sj kp:Int) (vl vb vr vt:Value) (w:World):(Instr.field 34 (Q0O kj vl sj kp vb vr vt) 1).run Tryz.prog w=.ok (plv kp vb vr) w:=by kernel_rfl
end Go.Proofs.YtpneolgdghbinaaGreat
