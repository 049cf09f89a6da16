/- Several texts in one: AppL, FlowL, App. -/
import Derived.Laws.AppendOwnNone
import Derived.Maps.AppendAt
import Derived.Test.YtpneolgdghbinaaGreatQCrashesL03
namespace Go.Proofs.YtpneolgdghbinaaGreat
open Go.ChangeShapes Go.WideShapes Go.ChangeAt Go.RowKit Go.Joins
set_option linter.unusedVariables false
set_option linter.unusedSimpArgs false
set_option maxRecDepth 100000
set_option maxHeartbeats 40000000
variable {α:Type}
structure AppOk (L:Lay α) (t e:TypeId):Prop where
 under:Tryz.prog.underlying t=some (.slice e)
 info:∃z bytes,(Tryz.prog.info? e).map (fun i=>(i.zero,i.size,i.bytes))=some (some z,L.k,bytes)/\z.cells.size=L.k/\bytes<=1024
 pos:0 < L.k
 one:∀a,∀u∈L.cs a,u.oneCell'=true
theorem RdL.empty0 {L:Lay α} {C:Nat} {w:World} {l:List α} (h:RdL L C w none l):l=[]:=by
 rcases h with h|⟨b,off,h,_⟩
 ·exact h
 ·cases h
theorem RdL.news {L:Lay α} {C:Nat} {w:World} {f:Addr} {l:List α} (m:0 < L.k) (h:RdL L C w (some f) l):∀j u,(l.flatMap L.cs)[j]? =some u->w.cell? (f.add j)=some u:=by
 intro j u g
 rcases h with h|⟨b,off,s,q,r⟩
 ·subst h;simp at g
 ·obtain rfl:f=⟨b,off,none⟩:=by simpa using s
  have d:j < l.length * L.k:=by
   have:=(List.getElem?_eq_some_iff.1 g).1
   rwa [Q0n]at this
  have c:j % L.k < L.k:=Nat.mod_lt _ m
  have a:j / L.k < l.length:=by rw[Nat.div_lt_iff_lt_mul m];exact d
  have e:j=j / L.k * L.k+j % L.k:=by rw[Nat.mul_comm];exact(Nat.div_add_mod j L.k).symm
  have i:=Q4G L l (j / L.k) (j % L.k) a c;rw[<-e,g]at i;have n:=r (j / L.k) a (j % L.k) c;rw[<-i,Nat.add_assoc,<-e]at n
  have p:(⟨b,off,none⟩:Addr).add j=⟨b,off+j,none⟩:=by by_cases h:j=0 <;> simp[Addr.add,h]
  rw[p];exact n
theorem Q5t {L:Lay α} (h:∀a,∀u∈L.cs a,u.oneCell'=true) (l:List α):∀u∈l.flatMap L.cs,u.oneCell'=true:=by
 intro u hu;obtain⟨a,_,ha⟩:=List.mem_flatMap.1 hu;exact h a u ha
theorem Q51 {L:Lay α} {t e:TypeId} (ok:AppOk L t e) {w:World} (u:TypeId) (base:Nat) (v:Value) (j:List α) (b:ownL L e w base v j)
  (m:Option Addr) (c C:Nat) (l:List α) (h:m=none->c=0) (x:RdL L C w m l) (g:j.length+l.length<=1073741824) (d:base<=w.heap.size):
  ∃v' i,(Builtin.append_ #[t,t] u #[v,.slice m l.length c]).run Tryz.prog w=.ok v' i/\ownL L e i base v' (j++l)/\w.grownBy i v.ownBlock/\(v'.ownBlock=v.ownBlock\/v'.ownBlock=some w.heap.size):=by
 obtain⟨z,a,f,s,n⟩:=ok.info;obtain⟨y,hi,p,q,r⟩:=info_parts f
 cases m with
 |none=>
  have e:=x.empty0;subst e;have E:=h rfl;subst E;exact⟨v,w,run_append_owned_none (P:=Tryz.prog) (w:=w) base t u _ y L.k ok.under hi v _ _ b,by simpa using b,World.grownBy.refl _ _,.inl rfl⟩
 |some ad=>
  obtain⟨v',i,A,h2,B,_,D⟩:=run_append_own_at (P:=Tryz.prog) w base t u _ y z L.k a ok.under hi p q r s ok.pos v _ _ b ad l.length c (l.flatMap L.cs) (Q0n L l) (x.news ok.pos) (Q5t ok.one l)
   (by unfold maxLen;omega) (by have:(j.length+l.length) * a<=1073741824 * 1024:=Nat.mul_le_mul g n;omega) d
  exact⟨v',i,A,by unfold ownL;simpa using h2,B,D⟩
theorem Q0q {L:Lay α} {t e:TypeId} (ok:AppOk L t e) {i:Array Oper} {o:Oper} {a:Act} {w:World} {K:Act->World->Prop} {Q:Exit->Act->World->Prop} {E:Prop} (p:o.guard=none) (s x:Operand)
  (y:o.op=.call { callee:=.builtin .append,args:=#[s,x],argTypes:=#[t,t] }) (base:Nat) (v:Value) (k:List α) (hs:a.eval s=v) (g:ownL L e w base v k)
  (n:Option Addr) (c C:Nat) (l:List α) (m:Nat) (hm:m=l.length) (B:a.eval x=.slice n m c) (f:n=none->c=0) (u:RdL L C w n l) (d:k.length+l.length<=1073741824) (b:base<=w.heap.size)
  (h:∀v' j,ownL L e j base v' (k++l)->w.grownBy j v.ownBlock->(v'.ownBlock=v.ownBlock\/v'.ownBlock=some w.heap.size)->K (a.put o.dst v') j):if Region.wanted o (yielded i a.tmps)=true then Oper.wp Tryz.prog o a w K Q else E:=by
 subst hm
 have A:Region.wanted o (yielded i a.tmps)=true:=by simp[Region.wanted,p]
 rw[if_pos A];obtain⟨v',j,z,q,h2,r⟩:=Q51 ok o.type base v k g n c C l f u d b;unfold Oper.wp execOp;simp only[y,resolve,invoke,builtin,Sem.run_bind,Sem.run_pure,Result.andThen_ok,List.map_toArray,List.map_cons,List.map_nil,hs,B,z];exact h v' j q h2 r
theorem Q09 {L:Lay α} {t e:TypeId} (ok:AppOk L t e) {w:World} {i:Array Oper} {rest:List Oper} {o:Oper} {a:Act} {Q:Exit->Act->World->Prop} (p:o.guard=none) (s x:Operand)
  (y:o.op=.call { callee:=.builtin .append,args:=#[s,x],argTypes:=#[t,t] }) (base:Nat) (v:Value) (k:List α) (hs:a.eval s=v) (g:ownL L e w base v k)
  (n:Option Addr) (c C:Nat) (l:List α) (m:Nat) (hm:m=l.length) (A:a.eval x=.slice n m c) (f:n=none->c=0) (u:RdL L C w n l) (d:k.length+l.length<=1073741824) (b:base<=w.heap.size)
  (h:∀v' j,ownL L e j base v' (k++l)->w.grownBy j v.ownBlock->(v'.ownBlock=v.ownBlock\/v'.ownBlock=some w.heap.size)->wpList Tryz.prog i Q rest (a.put o.dst v') j):wpList Tryz.prog i Q (o::rest) a w:=by
 subst hm
 refine wpList_plain p fun K hK=>?_
 obtain⟨v',j,z,q,h2,r⟩:=Q51 ok o.type base v k g n c C l f u d b;unfold Oper.wp execOp;simp only[y,resolve,invoke,builtin,Sem.run_bind,Sem.run_pure,Result.andThen_ok,List.map_toArray,List.map_cons,List.map_nil,hs,A,z];exact hK _ _ (h v' j q h2 r)
theorem Q3s {L:Lay α} (w:World) (e:TypeId):ownL L e (w.alloc (.cells #[] e)) w.heap.size (.slice (some ⟨w.heap.size,0,none⟩) 0 0) ([]:List α):=
 ⟨by simp,.inr ⟨w.heap.size,0,#[],rfl,Kaq _,heap_alloc_new w _,Kaq _,by unfold maxLen;omega,by simp,by simp⟩⟩
end Go.Proofs.YtpneolgdghbinaaGreat
namespace Go.Proofs.YtpneolgdghbinaaGreat
open Go.ChangeShapes Go.WideShapes Go.ChangeAt Go.RowKit Go.Joins
set_option linter.unusedVariables false
set_option linter.unusedSimpArgs false
set_option maxRecDepth 100000
set_option maxHeartbeats 40000000
def Qgq:Lay (Int × Int):=⟨2,fun a=> [.int .i64 a.1,.int .i64 a.2],(0,0),fun _=>rfl⟩
theorem QgJ:(Tryz.prog.info? 36).map (fun i=>(i.zero,i.size,i.bytes))=some (some (.agg #[.int .i64 0,.int .i64 0]),2,16):=by kernel_rfl
theorem Qjz:AppOk Qgq 67 36:=⟨Tryz.underlying67,⟨_,_,QgJ,rfl,by decide⟩,by decide,fun a u hu=>by
 simp[Qgq]at hu;rcases hu with rfl|rfl <;> rfl⟩
theorem Qgh (w:World) (x y:Int):RdL Qgq (w.alloc (.cells #[.int .i64 x,.int .i64 y] 36)).heap.size (w.alloc (.cells #[.int .i64 x,.int .i64 y] 36)) (some ⟨w.heap.size,0,none⟩) [(x,y)]:=by
 refine .inr ⟨w.heap.size,0,rfl,by simp,fun i hi j c=>?_⟩
 have a:i=0:=by simpa using hi
 have b:j < 2:=c;subst a
 match j,b with
 |0,_=>simp[Qgq]
 |1,_=>simp[Qgq]
theorem Q59 {w:World} {j:Array Oper} {rest:List Oper} {o:Oper} {a:Act} {Q:Exit->Act->World->Prop} (g:o.guard=none) (s x:Operand)
  (y:o.op=.call { callee:=.builtin .append,args:=#[s,x],argTypes:=#[22,22] }) (base:Nat) (v:Value) (r:List Int) (hs:a.eval s=v) (b:ownB w base v r)
  (m:Option Addr) (c:Nat) (l:List Int) (z:a.eval x=.slice m l.length c) (i:m=none->c=0) (t:Rd w m l) (u:r.length+l.length<=1099511627776) (d:base<=w.heap.size)
  (h:∀v' f,ownB f base v' (r++l)->w.grownBy f v.ownBlock->Below base w f->wpList Tryz.prog j Q rest (a.put o.dst v') f):wpList Tryz.prog j Q (o::rest) a w:=by
 obtain⟨A,hi,n,p,q⟩:=info_parts Qf1
 have C:∀f,w.grownBy f v.ownBlock->Below base w f:=fun f E=>KBq.grown E d (fun k e=>(b.lt k e).1)
 cases m with
 |none=>
  have e:=t.nil;subst e;have D:=i rfl;subst D;refine wpList_append_own_none g s x 22 y base 5 A 1 Tryz.underlying22 hi v _ _ hs b z ?_;exact h v w (by simpa using b) (World.grownBy.refl _ _) KBq
 |some ad=>
  refine wpList_append_own _ g s x 22 y base 5 A (.int .u8 0) 1 1 Tryz.underlying22 hi n p q rfl (by decide) v _ _ hs b ad l.length c (l.map (Value.int .u8)) z (by simp) t.news (ints_oneCell .u8 l) (by unfold maxLen;omega) (by omega) d ?_;intro v' f B h2 _;exact h v' f (by unfold ownB;simpa using B) h2 (C _ h2)
theorem Q68 {j:Array Oper} {o:Oper} {a:Act} {w:World} {K:Act->World->Prop} {Q:Exit->Act->World->Prop} {E:Prop} (p:o.guard=none) (s x:Operand)
  (A:o.op=.call { callee:=.builtin .append,args:=#[s,x],argTypes:=#[22,22] }) (base:Nat) (v:Value) (u:List Int) (hs:a.eval s=v) (b:ownB w base v u)
  (n:Option Addr) (c:Nat) (l:List Int) (m:Nat) (hm:m=l.length) (B:a.eval x=.slice n m c) (g:n=none->c=0) (y:Rd w n l) (z:u.length+l.length<=1099511627776) (d:base<=w.heap.size)
  (h:∀v' f,ownB f base v' (u++l)->Below base w f->K (a.put o.dst v') f):if Region.wanted o (yielded j a.tmps)=true then Oper.wp Tryz.prog o a w K Q else E:=by
 subst hm
 have I:Region.wanted o (yielded j a.tmps)=true:=by simp[Region.wanted,p]
 rw[if_pos I];obtain⟨C,hi,q,r,t⟩:=info_parts Qf1
 have F:∀f,w.grownBy f v.ownBlock->Below base w f:=fun f H=>KBq.grown H d (fun k e=>(b.lt k e).1)
 cases n with
 |none=>
  have e:=y.nil;subst e;have G:=g rfl;subst G;have i:=run_append_owned_none (P:=Tryz.prog) (w:=w) base 22 o.type 5 C 1 Tryz.underlying22 hi v _ _ b;unfold Oper.wp;simp[execOp,A,resolve,invoke,builtin,hs,B,i,Result.andThen];exact h v w (by simpa using b) KBq
 |some ad=>
  refine wp_append_own _ s x 22 A base 5 C (.int .u8 0) 1 1 Tryz.underlying22 hi q r t rfl (by decide) v _ _ hs b ad l.length c (l.map (Value.int .u8)) B (by simp) y.news (ints_oneCell .u8 l) (by unfold maxLen;omega) (by omega) d ?_;intro v' f D h2 _;exact h v' f (by unfold ownB;simpa using D) (F _ h2)
end Go.Proofs.YtpneolgdghbinaaGreat
