/- Several texts in one: AppL, FlowL, App. -/
import Derived.Laws.AppendOwnNone
import Derived.Maps.AppendAt
import Derived.Test.YtpneolgdghbinaaGreatQLearnsL03
namespace Go.Proofs.YtpneolgdghbinaaGreat
open Go.ChangeShapes Go.WideShapes Go.ChangeAt Go.RowKit Go.Joins
set_option linter.unusedVariables false
set_option linter.unusedSimpArgs false
set_option maxRecDepth 100000
set_option maxHeartbeats 40000000
variable {α:Type}
structure AppOk (L:Lay α) (t e:TypeId):Prop where
 under:Tryz.prog.underlying t=some (.slice e)
 info:∃z bytes,(Tryz.prog.info? e).map (fun i=> (i.zero,i.size,i.bytes))=some (some z,L.k,bytes)∧z.cells.size=L.k∧bytes≤1024
 pos:0 < L.k
 one:∀a,∀u∈L.cs a,u.oneCell'=true
theorem RdL.empty0 {L:Lay α} {C:Nat} {w:World} {l:List α} (h:RdL L C w none l):l=[]:=by
 rcases h with h|⟨b,off,h,_⟩
 ·exact h
 ·cases h
theorem RdL.news {L:Lay α} {C:Nat} {w:World} {f:Addr} {l:List α} (n:0 < L.k) (h:RdL L C w (some f) l):∀j u,(l.flatMap L.cs)[j]? =some u→w.cell? (f.add j)=some u:=by
 intro j u g
 rcases h with h|⟨b,off,q,s,r⟩
 ·subst h;simp at g
 ·obtain rfl:f=⟨b,off,none⟩:=by simpa using q
  have a:j < l.length * L.k:=by
   have:=(List.getElem?_eq_some_iff.1 g).1
   rwa [Q0n] at this
  have d:j % L.k < L.k:=Nat.mod_lt _ n
  have c:j / L.k < l.length:=by rw [Nat.div_lt_iff_lt_mul n];exact a
  have e:j=j / L.k * L.k+j % L.k:=by rw [Nat.mul_comm];exact (Nat.div_add_mod j L.k).symm
  have i:=Q4K L l (j / L.k) (j % L.k) c d;rw [←e,g] at i;have m:=r (j / L.k) c (j % L.k) d;rw [←i,Nat.add_assoc,←e] at m
  have p:(⟨b,off,none⟩:Addr).add j=⟨b,off+j,none⟩:=by by_cases h:j=0 <;> simp [Addr.add,h]
  rw [p];exact m
theorem Q5n {L:Lay α} (h:∀a,∀u∈L.cs a,u.oneCell'=true) (l:List α):∀u∈l.flatMap L.cs,u.oneCell'=true:=by
 intro u hu;obtain ⟨a,_,ha⟩:=List.mem_flatMap.1 hu;exact h a u ha
theorem Q53 {L:Lay α} {t e:TypeId} (ok:AppOk L t e) {w:World} (q:TypeId) (base:Nat) (v:Value) (m:List α) (a:ownL L e w base v m)
  (j:Option Addr) (c C:Nat) (l:List α) (h:j=none→c=0) (y:RdL L C w j l) (g:m.length+l.length≤1073741824) (f:base≤w.heap.size):
  ∃v' i,(Builtin.append_ #[t,t] q #[v,.slice j l.length c]).run Tryz.prog w=.ok v' i∧ownL L e i base v' (m++l)∧w.grownBy i v.ownBlock∧(v'.ownBlock=v.ownBlock∨v'.ownBlock=some w.heap.size):=by
 obtain ⟨z,b,d,p,r⟩:=ok.info;obtain ⟨x,hi,s,n,u⟩:=info_parts d
 cases j with
 |none=>
  have e:=y.empty0;subst e;have E:=h rfl;subst E;exact ⟨v,w,run_append_owned_none (P:=Tryz.prog) (w:=w) base t q _ x L.k ok.under hi v _ _ a,by simpa using a,World.grownBy.refl _ _,.inl rfl⟩
 |some ad=>
  obtain ⟨v',i,B,h2,A,_,D⟩:=run_append_own_at (P:=Tryz.prog) w base t q _ x z L.k b ok.under hi s n u p ok.pos v _ _ a ad l.length c (l.flatMap L.cs) (Q0n L l) (y.news ok.pos) (Q5n ok.one l)
   (by unfold maxLen;omega) (by have:(m.length+l.length) * b≤1073741824 * 1024:=Nat.mul_le_mul g r;omega) f
  exact ⟨v',i,B,by unfold ownL;simpa using h2,A,D⟩
theorem Q0i {L:Lay α} {t e:TypeId} (ok:AppOk L t e) {g:Array Oper} {o:Oper} {a:Act} {w:World} {K:Act→World→Prop} {Q:Exit→Act→World→Prop} {E:Prop} (p:o.guard=none) (s x:Operand)
  (A:o.op=.call { callee:=.builtin .append,args:=#[s,x],argTypes:=#[t,t] }) (base:Nat) (v:Value) (n:List α) (hs:a.eval s=v) (f:ownL L e w base v n)
  (k:Option Addr) (c C:Nat) (l:List α) (m:Nat) (hm:m=l.length) (y:a.eval x=.slice k m c) (i:k=none→c=0) (z:RdL L C w k l) (d:n.length+l.length≤1073741824) (b:base≤w.heap.size)
  (h:∀v' j,ownL L e j base v' (n++l)→w.grownBy j v.ownBlock→(v'.ownBlock=v.ownBlock∨v'.ownBlock=some w.heap.size)→K (a.put o.dst v') j):if Region.wanted o (yielded g a.tmps)=true then Oper.wp Tryz.prog o a w K Q else E:=by
 subst hm
 have q:Region.wanted o (yielded g a.tmps)=true:=by simp [Region.wanted,p]
 rw [if_pos q];obtain ⟨v',j,u,B,h2,r⟩:=Q53 ok o.type base v n f k c C l i z d b;unfold Oper.wp execOp;simp only [A,resolve,invoke,builtin,Sem.run_bind,Sem.run_pure,Result.andThen_ok,List.map_toArray,List.map_cons,List.map_nil,hs,y,u];exact h v' j B h2 r
theorem Q08 {L:Lay α} {t e:TypeId} (ok:AppOk L t e) {w:World} {g:Array Oper} {rest:List Oper} {o:Oper} {a:Act} {Q:Exit→Act→World→Prop} (p:o.guard=none) (s x:Operand)
  (z:o.op=.call { callee:=.builtin .append,args:=#[s,x],argTypes:=#[t,t] }) (base:Nat) (v:Value) (n:List α) (hs:a.eval s=v) (f:ownL L e w base v n)
  (k:Option Addr) (c C:Nat) (l:List α) (m:Nat) (hm:m=l.length) (u:a.eval x=.slice k m c) (i:k=none→c=0) (y:RdL L C w k l) (d:n.length+l.length≤1073741824) (b:base≤w.heap.size)
  (h:∀v' j,ownL L e j base v' (n++l)→w.grownBy j v.ownBlock→(v'.ownBlock=v.ownBlock∨v'.ownBlock=some w.heap.size)→wpList Tryz.prog g Q rest (a.put o.dst v') j):wpList Tryz.prog g Q (o::rest) a w:=by
 subst hm
 refine wpList_plain p fun K hK=> ?_
 obtain ⟨v',j,r,A,h2,q⟩:=Q53 ok o.type base v n f k c C l i y d b;unfold Oper.wp execOp;simp only [z,resolve,invoke,builtin,Sem.run_bind,Sem.run_pure,Result.andThen_ok,List.map_toArray,List.map_cons,List.map_nil,hs,u,r];exact hK _ _ (h v' j A h2 q)
theorem Q3v {L:Lay α} (w:World) (e:TypeId):ownL L e (w.alloc (.cells #[] e)) w.heap.size (.slice (some ⟨w.heap.size,0,none⟩) 0 0) ([]:List α):=
 ⟨by simp,.inr ⟨w.heap.size,0,#[],rfl,Kaq _,heap_alloc_new w _,Kaq _,by unfold maxLen;omega,by simp,by simp⟩⟩
end Go.Proofs.YtpneolgdghbinaaGreat
namespace Go.Proofs.YtpneolgdghbinaaGreat
open Go.ChangeShapes Go.WideShapes Go.ChangeAt Go.RowKit Go.Joins
set_option linter.unusedVariables false
set_option linter.unusedSimpArgs false
set_option maxRecDepth 100000
set_option maxHeartbeats 40000000
def Q8k:Lay (Int × Int):=⟨2,fun a=> [.int .i64 a.1,.int .i64 a.2],(0,0),fun _=> rfl⟩
theorem Qh1:(Tryz.prog.info? 36).map (fun i=> (i.zero,i.size,i.bytes))=some (some (.agg #[.int .i64 0,.int .i64 0]),2,16):=by kernel_rfl
theorem Qio:AppOk Q8k 67 36:=⟨Tryz.underlying67,⟨_,_,Qh1,rfl,by decide⟩,by decide,fun a u hu=> by
 simp [Q8k] at hu;rcases hu with rfl|rfl <;> rfl⟩
theorem Q5c {w:World} {i:Array Oper} {rest:List Oper} {o:Oper} {a:Act} {Q:Exit→Act→World→Prop} (g:o.guard=none) (s x:Operand)
  (A:o.op=.call { callee:=.builtin .append,args:=#[s,x],argTypes:=#[22,22] }) (base:Nat) (v:Value) (p:List Int) (hs:a.eval s=v) (b:ownB w base v p)
  (m:Option Addr) (c:Nat) (l:List Int) (y:a.eval x=.slice m l.length c) (j:m=none→c=0) (z:Rd w m l) (u:p.length+l.length≤1099511627776) (d:base≤w.heap.size)
  (h:∀v' f,ownB f base v' (p++l)→w.grownBy f v.ownBlock→Below base w f→wpList Tryz.prog i Q rest (a.put o.dst v') f):wpList Tryz.prog i Q (o::rest) a w:=by
 obtain ⟨t,hi,q,n,r⟩:=info_parts QfW
 have B:∀f,w.grownBy f v.ownBlock→Below base w f:=fun f E=> (Below.refl _ _).grown E d (fun k e=> (b.lt k e).1)
 cases m with
 |none=>
  have e:=z.nil;subst e;have C:=j rfl;subst C;refine wpList_append_own_none g s x 22 A base 5 t 1 Tryz.underlying22 hi v _ _ hs b y ?_;exact h v w (by simpa using b) (World.grownBy.refl _ _) (Below.refl _ _)
 |some ad=>
  refine wpList_append_own _ g s x 22 A base 5 t (.int .u8 0) 1 1 Tryz.underlying22 hi q n r rfl (by decide) v _ _ hs b ad l.length c (l.map (Value.int .u8)) y (by simp) z.news (ints_oneCell .u8 l) (by unfold maxLen;omega) (by omega) d ?_;intro v' f D h2 _;exact h v' f (by unfold ownB;simpa using D) h2 (B _ h2)
theorem Q6o {g:Array Oper} {o:Oper} {a:Act} {w:World} {K:Act→World→Prop} {Q:Exit→Act→World→Prop} {E:Prop} (p:o.guard=none) (s x:Operand)
  (C:o.op=.call { callee:=.builtin .append,args:=#[s,x],argTypes:=#[22,22] }) (base:Nat) (v:Value) (r:List Int) (hs:a.eval s=v) (b:ownB w base v r)
  (n:Option Addr) (c:Nat) (l:List Int) (m:Nat) (hm:m=l.length) (A:a.eval x=.slice n m c) (i:n=none→c=0) (B:Rd w n l) (z:r.length+l.length≤1099511627776) (d:base≤w.heap.size)
  (h:∀v' f,ownB f base v' (r++l)→Below base w f→K (a.put o.dst v') f):if Region.wanted o (yielded g a.tmps)=true then Oper.wp Tryz.prog o a w K Q else E:=by
 subst hm
 have D:Region.wanted o (yielded g a.tmps)=true:=by simp [Region.wanted,p]
 rw [if_pos D];obtain ⟨y,hi,t,q,u⟩:=info_parts QfW
 have F:∀f,w.grownBy f v.ownBlock→Below base w f:=fun f I=> (Below.refl _ _).grown I d (fun k e=> (b.lt k e).1)
 cases n with
 |none=>
  have e:=B.nil;subst e;have H:=i rfl;subst H;have j:=run_append_owned_none (P:=Tryz.prog) (w:=w) base 22 o.type 5 y 1 Tryz.underlying22 hi v _ _ b;unfold Oper.wp;simp [execOp,C,resolve,invoke,builtin,hs,A,j,Result.andThen];exact h v w (by simpa using b) (Below.refl _ _)
 |some ad=>
  refine wp_append_own _ s x 22 C base 5 y (.int .u8 0) 1 1 Tryz.underlying22 hi t q u rfl (by decide) v _ _ hs b ad l.length c (l.map (Value.int .u8)) A (by simp) B.news (ints_oneCell .u8 l) (by unfold maxLen;omega) (by omega) d ?_;intro v' f G h2 _;exact h v' f (by unfold ownB;simpa using G) (F _ h2)
end Go.Proofs.YtpneolgdghbinaaGreat
