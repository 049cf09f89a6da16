/- A balancer that reads, whoever laid it: what the laws' calls take of it. -/
import Derived.Test.YtpneolgdghbinaaGreatQRoutesL35
import Derived.Test.YtpneolgdghbinaaGreatQRoutesL40
namespace Go.Proofs.YtpneolgdghbinaaGreat
open Go.ChangeShapes Go.WideShapes Go.ChangeAt Go.RowKit Go.Joins
set_option linter.unusedVariables false
set_option linter.unusedSimpArgs false
set_option maxRecDepth 100000
set_option maxHeartbeats 40000000
def BalRd (w:World) (v:Value) (m:Bm):Prop:=∃(o:Option Addr) (c:Nat) (ob:Option Addr) (np cb:Nat) (oR:Option Addr) (nr cR:Nat) (ot:Option Addr) (ct:Nat),v=Q0Z m.j.key (.slice o m.j.l.length c) m.j.safe m.p.key (.slice ob np cb) (.slice oR nr cR) (.slice ot m.t.length ct)∧RdC w.heap.size w o m.j.l∧(o=none→c=0)∧Q60 w.heap.size w (plv m.p.key (.slice ob np cb) (.slice oR nr cR)) m.p∧RdS w.heap.size w ot m.t∧Q8l m
theorem BalRd.kept {w b:World} {v:Value} {m:Bm} (h:BalRd w v m) (a:Below w.heap.size w b):BalRd b v m:=by
 obtain ⟨o,c,n,j,f,l,k,d,p,g,rfl,q,r,s,t,i⟩:=h;exact ⟨o,c,n,j,f,l,k,d,p,g,rfl,(q.kept a (Kaq _)).le a.size,r,(s.kept a (Kaq _)).le a.size,(t.kept a (Kaq _)).le a.size,i⟩
theorem OrBr.brd {lo hi:Nat} {w:World} {q:Int} {o:Option Addr} {s c:Nat} {v r:Int} {n:Option Addr} {j b:Nat} {l:Option Addr} {k a:Nat} {p:Option Addr} {u d:Nat} {m:Bm} (h:OrBr lo hi w (Q0Z q (.slice o s c) v r (.slice n j b) (.slice l k a) (.slice p u d)) m) (y:hi≤w.heap.size) (x:fitBm m∧m.t.length≤16):BalRd w (Q0Z q (.slice o s c) v r (.slice n j b) (.slice l k a) (.slice p u d)) m:=by
 obtain ⟨D,lb,E,lt,rfl,g,i,z,A,B,C,f⟩:=h.use y x;exact ⟨o,c,n,j,b,l,k,a,p,d,by rw [g,i],z,A,B,C,f⟩
theorem BalRd.pool {w:World} {j:Int} {n:Value} {l a:Int} {b d q:Value} {m:Bm} (h:BalRd w (Q0Z j n l a b d q) m):Q60 w.heap.size w (plv a b d) m.p:=by
 obtain ⟨o,c,z,v,s,y,x,r,A,t,e,B,C,k,D,u⟩:=h;simp only [Value.agg.injEq,Array.mk.injEq,List.cons.injEq,and_true,true_and,Value.int.injEq] at e;obtain ⟨_,_,_,f,g,i,_⟩:=e;rw [f,g,i];exact k
theorem Q82 {v:Value} {m:Bm} {w:World} (a p:Int) (h:BalRd w v m):
  Calls Tryz.prog 16 #[v,Q9j a p] w fun e z=> e=.returned (.int .i64 (Q8b m a p))∧Below w.heap.size w z:=by
 obtain ⟨o,c,q,i,d,n,k,b,r,f,rfl,s,u,x,y,g⟩:=h;exact QaE m.j.key o m.j.l.length c m.j.safe m.p.key q i d n k b r m.t.length f m.j.l m.p.l m.p.ring m.t a p w rfl rfl s u x y g
end Go.Proofs.YtpneolgdghbinaaGreat
