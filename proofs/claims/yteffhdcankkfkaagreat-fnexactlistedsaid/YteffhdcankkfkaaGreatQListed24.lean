/- Several texts in one: AppL, App. -/
import Derived.Laws.AppendOwnNone
import Derived.Maps.AppendAt
import Derived.Test.YteffhdcankkfkaaGreatQListed03
namespace Go.Proofs.YteffhdcankkfkaaGreat
open Go.ChangeShapes Go.WideShapes Go.ChangeAt Go.RowKit Go.Joins
set_option linter.unusedVariables false
set_option linter.unusedSimpArgs false
set_option maxRecDepth 100000
set_option maxHeartbeats 40000000
variable {α:Type}
structure AppOk (L:Lay α) (t e:TypeId):Prop where
 under:Tryz.prog.underlying t=some (.slice e)
 info:∃z bytes,(Tryz.prog.info? e).map (fun i=>(i.zero,i.size,i.bytes))=some (some z,L.k,bytes)/\z.cells.size=L.k/\bytes<=1024
 pos:0 < L.k
 one:∀a,∀u∈L.cs a,u.oneCell'=true
theorem RdL.empty0 {L:Lay α} {C:Nat} {w:World} {l:List α} (h:RdL L C w none l):l=[]:=by
 rcases h with h|⟨b,off,h,_⟩
 ·exact h
 ·cases h
theorem RdL.news {L:Lay α} {C:Nat} {w:World} {g:Addr} {l:List α} (n:0 < L.k) (h:RdL L C w (some g) l):∀j u,(l.flatMap L.cs)[j]? =some u->w.cell? (g.add j)=some u:=by
 intro j u i
 rcases h with h|⟨b,a,t,s,r⟩
 ·subst h;simp at i
 ·obtain rfl:g=⟨b,a,none⟩:=by simpa using t
  have f:j < l.length * L.k:=by
   have:=(List.getElem?_eq_some_iff.1 i).1
   rwa [Q0f]at this
  have d:j % L.k < L.k:=Nat.mod_lt _ n
  have c:j / L.k < l.length:=by rw[Nat.div_lt_iff_lt_mul n];exact f
  have e:j=j / L.k * L.k+j % L.k:=by rw[Nat.mul_comm];exact(Nat.div_add_mod j L.k).symm
  have m:=Q35 L l (j / L.k) (j % L.k) c d;rw[<-e,i]at m;have p:=r (j / L.k) c (j % L.k) d;rw[<-m,Nat.add_assoc,<-e]at p
  have q:(⟨b,a,none⟩:Addr).add j=⟨b,a+j,none⟩:=by by_cases h:j=0 <;> simp[Addr.add,h]
  rw[q];exact p
theorem Q4H {L:Lay α} (h:∀a,∀u∈L.cs a,u.oneCell'=true) (l:List α):∀u∈l.flatMap L.cs,u.oneCell'=true:=by
 intro u hu;obtain⟨a,_,ha⟩:=List.mem_flatMap.1 hu;exact h a u ha
theorem Q44 {L:Lay α} {t e:TypeId} (ok:AppOk L t e) {w:World} (x:TypeId) (base:Nat) (v:Value) (m:List α) (b:ownL L e w base v m)
  (n:Option Addr) (c C:Nat) (l:List α) (i:n=none->c=0) (y:RdL L C w n l) (h:m.length+l.length<=1073741824) (d:base<=w.heap.size):
  ∃g j,(Builtin.append_ #[t,t] x #[v,.slice n l.length c]).run Tryz.prog w=.ok g j/\ownL L e j base g (m++l)/\w.grownBy j v.ownBlock/\(g.ownBlock=v.ownBlock\/g.ownBlock=some w.heap.size):=by
 obtain⟨z,a,f,u,p⟩:=ok.info;obtain⟨A,hi,q,r,s⟩:=info_parts f
 cases n with
 |none=>
  have e:=y.empty0;subst e;have F:=i rfl;subst F;exact⟨v,w,run_append_owned_none (P:=Tryz.prog) (w:=w) base t x _ A L.k ok.under hi v _ _ b,by simpa using b,World.grownBy.refl _ _,.inl rfl⟩
 |some ad=>
  obtain⟨g,j,B,h2,D,_,E⟩:=run_append_own_at (P:=Tryz.prog) w base t x _ A z L.k a ok.under hi q r s u ok.pos v _ _ b ad l.length c (l.flatMap L.cs) (Q0f L l) (y.news ok.pos) (Q4H ok.one l)
   (by unfold maxLen;omega) (by have:(m.length+l.length) * a<=1073741824 * 1024:=Nat.mul_le_mul h p;omega) d
  exact⟨g,j,B,by unfold ownL;simpa using h2,D,E⟩
theorem Q0o {L:Lay α} {t e:TypeId} (ok:AppOk L t e) {j:Array Oper} {o:Oper} {a:Act} {w:World} {K:Act->World->Prop} {Q:Exit->Act->World->Prop} {E:Prop} (q:o.guard=none) (s x:Operand)
  (A:o.op=.call { callee:=.builtin .append,args:=#[s,x],argTypes:=#[t,t] }) (base:Nat) (v:Value) (n:List α) (hs:a.eval s=v) (i:ownL L e w base v n)
  (p:Option Addr) (c C:Nat) (l:List α) (m:Nat) (z:m=l.length) (F:a.eval x=.slice p m c) (g:p=none->c=0) (y:RdL L C w p l) (f:n.length+l.length<=1073741824) (b:base<=w.heap.size)
  (h:∀d k,ownL L e k base d (n++l)->w.grownBy k v.ownBlock->(d.ownBlock=v.ownBlock\/d.ownBlock=some w.heap.size)->K (a.put o.dst d) k):if Region.wanted o (yielded j a.tmps)=true then Oper.wp Tryz.prog o a w K Q else E:=by
 subst z
 have D:Region.wanted o (yielded j a.tmps)=true:=by simp[Region.wanted,q]
 rw[if_pos D];obtain⟨d,k,B,r,h2,u⟩:=Q44 ok o.type base v n i p c C l g y f b;unfold Oper.wp execOp;simp only[A,resolve,invoke,builtin,Sem.run_bind,Sem.run_pure,Result.andThen_ok,List.map_toArray,List.map_cons,List.map_nil,hs,F,B];exact h d k r h2 u
theorem Q08 {L:Lay α} {t e:TypeId} (ok:AppOk L t e) {w:World} {j:Array Oper} {rest:List Oper} {o:Oper} {a:Act} {Q:Exit->Act->World->Prop} (q:o.guard=none) (s x:Operand)
  (A:o.op=.call { callee:=.builtin .append,args:=#[s,x],argTypes:=#[t,t] }) (base:Nat) (v:Value) (n:List α) (hs:a.eval s=v) (i:ownL L e w base v n)
  (p:Option Addr) (c C:Nat) (l:List α) (m:Nat) (z:m=l.length) (D:a.eval x=.slice p m c) (g:p=none->c=0) (y:RdL L C w p l) (f:n.length+l.length<=1073741824) (b:base<=w.heap.size)
  (h:∀d k,ownL L e k base d (n++l)->w.grownBy k v.ownBlock->(d.ownBlock=v.ownBlock\/d.ownBlock=some w.heap.size)->wpList Tryz.prog j Q rest (a.put o.dst d) k):wpList Tryz.prog j Q (o::rest) a w:=by
 subst z
 refine wpList_plain q fun K hK=>?_
 obtain⟨d,k,B,r,h2,u⟩:=Q44 ok o.type base v n i p c C l g y f b;unfold Oper.wp execOp;simp only[A,resolve,invoke,builtin,Sem.run_bind,Sem.run_pure,Result.andThen_ok,List.map_toArray,List.map_cons,List.map_nil,hs,D,B];exact hK _ _ (h d k r h2 u)
end Go.Proofs.YteffhdcankkfkaaGreat
namespace Go.Proofs.YteffhdcankkfkaaGreat
open Go.ChangeShapes Go.WideShapes Go.ChangeAt Go.RowKit Go.Joins
set_option linter.unusedVariables false
set_option linter.unusedSimpArgs false
set_option maxRecDepth 100000
set_option maxHeartbeats 40000000
theorem Q45 {w:World} {j:Array Oper} {rest:List Oper} {o:Oper} {a:Act} {Q:Exit->Act->World->Prop} (g:o.guard=none) (s x:Operand)
  (z:o.op=.call { callee:=.builtin .append,args:=#[s,x],argTypes:=#[106,106] }) (base:Nat) (v:Value) (t:List Int) (hs:a.eval s=v) (b:ownB w base v t)
  (m:Option Addr) (c:Nat) (l:List Int) (A:a.eval x=.slice m l.length c) (i:m=none->c=0) (u:Rd w m l) (y:t.length+l.length<=1099511627776) (d:base<=w.heap.size)
  (h:∀n f,ownB f base n (t++l)->w.grownBy f v.ownBlock->Below base w f->wpList Tryz.prog j Q rest (a.put o.dst n) f):wpList Tryz.prog j Q (o::rest) a w:=by
 obtain⟨B,hi,p,q,r⟩:=info_parts QgS
 have D:∀f,w.grownBy f v.ownBlock->Below base w f:=fun f F=>KBq.grown F d (fun k e=>(b.lt k e).1)
 cases m with
 |none=>
  have e:=u.nil;subst e;have E:=i rfl;subst E;refine wpList_append_own_none g s x 106 z base 5 B 1 Tryz.underlying106 hi v _ _ hs b A ?_;exact h v w (by simpa using b) (World.grownBy.refl _ _) KBq
 |some ad=>
  refine wpList_append_own _ g s x 106 z base 5 B (.int .u8 0) 1 1 Tryz.underlying106 hi p q r rfl (by decide) v _ _ hs b ad l.length c (l.map (Value.int .u8)) A (by simp) u.news (ints_oneCell .u8 l) (by unfold maxLen;omega) (by omega) d ?_;intro n f C h2 _;exact h n f (by unfold ownB;simpa using C) h2 (D _ h2)
end Go.Proofs.YteffhdcankkfkaaGreat
