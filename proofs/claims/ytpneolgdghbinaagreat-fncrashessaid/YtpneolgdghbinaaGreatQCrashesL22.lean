/- Several texts in one: AppL, FlowL, App. -/
import Derived.Laws.AppendOwnNone
import Derived.Maps.AppendAt
import Derived.Test.YtpneolgdghbinaaGreatQCrashesL03
namespace Go.Proofs.YtpneolgdghbinaaGreat
open Go.ChangeShapes Go.WideShapes Go.ChangeAt Go.RowKit Go.Joins
set_option linter.unusedVariables false
set_option linter.unusedSimpArgs false
set_option maxRecDepth 100000
set_option maxHeartbeats 40000000
variable {α:Type}
structure AppOk (L:Lay α) (t e:TypeId):Prop where
 under:Tryz.prog.underlying t=some (.slice e)
 info:∃z bytes,(Tryz.prog.info? e).map (fun i=>(i.zero,i.size,i.bytes))=some (some z,L.k,bytes)/\z.cells.size=L.k/\bytes<=1024
 pos:0 < L.k
 one:∀a,∀u∈L.cs a,u.oneCell'=true
theorem RdL.empty0 {L:Lay α} {C:Nat} {w:World} {l:List α} (h:RdL L C w none l):l=[]:=by
 rcases h with h|⟨b,off,h,_⟩
 ·exact h
 ·cases h
theorem RdL.news {L:Lay α} {C:Nat} {w:World} {f:Addr} {l:List α} (m:0 < L.k) (h:RdL L C w (some f) l):∀j u,(l.flatMap L.cs)[j]? =some u->w.cell? (f.add j)=some u:=by
 intro j u g
 rcases h with h|⟨b,off,s,q,r⟩
 ·subst h;simp at g
 ·obtain rfl:f=⟨b,off,none⟩:=by simpa using s
  have d:j < l.length * L.k:=by
   have:=(List.getElem?_eq_some_iff.1 g).1
   rwa [Q0l]at this
  have c:j % L.k < L.k:=Nat.mod_lt _ m
  have a:j / L.k < l.length:=by rw[Nat.div_lt_iff_lt_mul m];exact d
  have e:j=j / L.k * L.k+j % L.k:=by rw[Nat.mul_comm];exact(Nat.div_add_mod j L.k).symm
  have i:=Q4A L l (j / L.k) (j % L.k) a c;rw[<-e,g]at i;have n:=r (j / L.k) a (j % L.k) c;rw[<-i,Nat.add_assoc,<-e]at n
  have p:(⟨b,off,none⟩:Addr).add j=⟨b,off+j,none⟩:=by by_cases h:j=0 <;> simp[Addr.add,h]
  rw[p];exact n
theorem Q5D {L:Lay α} (h:∀a,∀u∈L.cs a,u.oneCell'=true) (l:List α):∀u∈l.flatMap L.cs,u.oneCell'=true:=by
 intro u hu;obtain⟨a,_,ha⟩:=List.mem_flatMap.1 hu;exact h a u ha
theorem Q4V {L:Lay α} {t e:TypeId} (ok:AppOk L t e) {w:World} (x:TypeId) (base:Nat) (v:Value) (m:List α) (b:ownL L e w base v m)
  (n:Option Addr) (c C:Nat) (l:List α) (i:n=none->c=0) (y:RdL L C w n l) (h:m.length+l.length<=1073741824) (d:base<=w.heap.size):
  ∃g j,(Builtin.append_ #[t,t] x #[v,.slice n l.length c]).run Tryz.prog w=.ok g j/\ownL L e j base g (m++l)/\w.grownBy j v.ownBlock/\(g.ownBlock=v.ownBlock\/g.ownBlock=some w.heap.size):=by
 obtain⟨z,a,f,u,p⟩:=ok.info;obtain⟨A,hi,q,r,s⟩:=info_parts f
 cases n with
 |none=>
  have e:=y.empty0;subst e;have F:=i rfl;subst F;exact⟨v,w,run_append_owned_none (P:=Tryz.prog) (w:=w) base t x _ A L.k ok.under hi v _ _ b,by simpa using b,World.grownBy.refl _ _,.inl rfl⟩
 |some ad=>
  obtain⟨g,j,B,h2,D,_,E⟩:=run_append_own_at (P:=Tryz.prog) w base t x _ A z L.k a ok.under hi q r s u ok.pos v _ _ b ad l.length c (l.flatMap L.cs) (Q0l L l) (y.news ok.pos) (Q5D ok.one l)
   (by unfold maxLen;omega) (by have:(m.length+l.length) * a<=1073741824 * 1024:=Nat.mul_le_mul h p;omega) d
  exact⟨g,j,B,by unfold ownL;simpa using h2,D,E⟩
theorem Q0n {L:Lay α} {t e:TypeId} (ok:AppOk L t e) {j:Array Oper} {o:Oper} {a:Act} {w:World} {K:Act->World->Prop} {Q:Exit->Act->World->Prop} {E:Prop} (q:o.guard=none) (s x:Operand)
  (z:o.op=.call { callee:=.builtin .append,args:=#[s,x],argTypes:=#[t,t] }) (base:Nat) (v:Value) (n:List α) (hs:a.eval s=v) (i:ownL L e w base v n)
  (p:Option Addr) (c C:Nat) (l:List α) (m:Nat) (hm:m=l.length) (D:a.eval x=.slice p m c) (g:p=none->c=0) (y:RdL L C w p l) (f:n.length+l.length<=1073741824) (b:base<=w.heap.size)
  (h:∀d k,ownL L e k base d (n++l)->w.grownBy k v.ownBlock->(d.ownBlock=v.ownBlock\/d.ownBlock=some w.heap.size)->K (a.put o.dst d) k):if Region.wanted o (yielded j a.tmps)=true then Oper.wp Tryz.prog o a w K Q else E:=by
 subst hm
 have B:Region.wanted o (yielded j a.tmps)=true:=by simp[Region.wanted,q]
 rw[if_pos B];obtain⟨d,k,A,r,h2,u⟩:=Q4V ok o.type base v n i p c C l g y f b;unfold Oper.wp execOp;simp only[z,resolve,invoke,builtin,Sem.run_bind,Sem.run_pure,Result.andThen_ok,List.map_toArray,List.map_cons,List.map_nil,hs,D,A];exact h d k r h2 u
theorem Q07 {L:Lay α} {t e:TypeId} (ok:AppOk L t e) {w:World} {j:Array Oper} {rest:List Oper} {o:Oper} {a:Act} {Q:Exit->Act->World->Prop} (q:o.guard=none) (s x:Operand)
  (z:o.op=.call { callee:=.builtin .append,args:=#[s,x],argTypes:=#[t,t] }) (base:Nat) (v:Value) (n:List α) (hs:a.eval s=v) (i:ownL L e w base v n)
  (p:Option Addr) (c C:Nat) (l:List α) (m:Nat) (hm:m=l.length) (B:a.eval x=.slice p m c) (g:p=none->c=0) (y:RdL L C w p l) (f:n.length+l.length<=1073741824) (b:base<=w.heap.size)
  (h:∀d k,ownL L e k base d (n++l)->w.grownBy k v.ownBlock->(d.ownBlock=v.ownBlock\/d.ownBlock=some w.heap.size)->wpList Tryz.prog j Q rest (a.put o.dst d) k):wpList Tryz.prog j Q (o::rest) a w:=by
 subst hm
 refine wpList_plain q fun K hK=>?_
 obtain⟨d,k,A,r,h2,u⟩:=Q4V ok o.type base v n i p c C l g y f b;unfold Oper.wp execOp;simp only[z,resolve,invoke,builtin,Sem.run_bind,Sem.run_pure,Result.andThen_ok,List.map_toArray,List.map_cons,List.map_nil,hs,B,A];exact hK _ _ (h d k r h2 u)
theorem Q3q {L:Lay α} (w:World) (e:TypeId):ownL L e (w.alloc (.cells #[] e)) w.heap.size (.slice (some ⟨w.heap.size,0,none⟩) 0 0) ([]:List α):=
 ⟨by simp,.inr ⟨w.heap.size,0,#[],rfl,Kaq _,heap_alloc_new w _,Kaq _,by unfold maxLen;omega,by simp,by simp⟩⟩
end Go.Proofs.YtpneolgdghbinaaGreat
namespace Go.Proofs.YtpneolgdghbinaaGreat
open Go.ChangeShapes Go.WideShapes Go.ChangeAt Go.RowKit Go.Joins
set_option linter.unusedVariables false
set_option linter.unusedSimpArgs false
set_option maxRecDepth 100000
set_option maxHeartbeats 40000000
def Qgh:Lay (Int × Int):=⟨2,fun a=> [.int .i64 a.1,.int .i64 a.2],(0,0),fun _=>rfl⟩
theorem Qgo:(Tryz.prog.info? 36).map (fun i=>(i.zero,i.size,i.bytes))=some (some (.agg #[.int .i64 0,.int .i64 0]),2,16):=by kernel_rfl
theorem Qjf:AppOk Qgh 67 36:=⟨Tryz.underlying67,⟨_,_,Qgo,rfl,by decide⟩,by decide,fun a u hu=>by
 simp[Qgh]at hu;rcases hu with rfl|rfl <;> rfl⟩
theorem QgC (w:World) (x y:Int):RdL Qgh (w.alloc (.cells #[.int .i64 x,.int .i64 y] 36)).heap.size (w.alloc (.cells #[.int .i64 x,.int .i64 y] 36)) (some ⟨w.heap.size,0,none⟩) [(x,y)]:=by
 refine .inr ⟨w.heap.size,0,rfl,by simp,fun i hi j c=>?_⟩
 have a:i=0:=by simpa using hi
 have b:j < 2:=c;subst a
 match j,b with
 |0,_=>simp[Qgh]
 |1,_=>simp[Qgh]
theorem Q56 {w:World} {j:Array Oper} {rest:List Oper} {o:Oper} {a:Act} {Q:Exit->Act->World->Prop} (g:o.guard=none) (s x:Operand)
  (z:o.op=.call { callee:=.builtin .append,args:=#[s,x],argTypes:=#[22,22] }) (base:Nat) (v:Value) (t:List Int) (hs:a.eval s=v) (b:ownB w base v t)
  (m:Option Addr) (c:Nat) (l:List Int) (A:a.eval x=.slice m l.length c) (i:m=none->c=0) (u:Rd w m l) (y:t.length+l.length<=1099511627776) (d:base<=w.heap.size)
  (h:∀n f,ownB f base n (t++l)->w.grownBy f v.ownBlock->Below base w f->wpList Tryz.prog j Q rest (a.put o.dst n) f):wpList Tryz.prog j Q (o::rest) a w:=by
 obtain⟨B,hi,p,q,r⟩:=info_parts Qix
 have D:∀f,w.grownBy f v.ownBlock->Below base w f:=fun f F=>KBq.grown F d (fun k e=>(b.lt k e).1)
 cases m with
 |none=>
  have e:=u.nil;subst e;have E:=i rfl;subst E;refine wpList_append_own_none g s x 22 z base 5 B 1 Tryz.underlying22 hi v _ _ hs b A ?_;exact h v w (by simpa using b) (World.grownBy.refl _ _) KBq
 |some ad=>
  refine wpList_append_own _ g s x 22 z base 5 B (.int .u8 0) 1 1 Tryz.underlying22 hi p q r rfl (by decide) v _ _ hs b ad l.length c (l.map (Value.int .u8)) A (by simp) u.news (ints_oneCell .u8 l) (by unfold maxLen;omega) (by omega) d ?_;intro n f C h2 _;exact h n f (by unfold ownB;simpa using C) h2 (D _ h2)
end Go.Proofs.YtpneolgdghbinaaGreat
