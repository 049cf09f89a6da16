/- Several texts in one: AppL, FlowL. -/
import Derived.Laws.AppendOwnNone
import Derived.Maps.AppendAt
import Derived.Test.YtljogkoaaidlcaaQHandL03
namespace Go.Proofs.Ytljogkoaaidlcaa
open Go.ChangeShapes Go.WideShapes Go.ChangeAt Go.RowKit Go.Joins
set_option linter.unusedVariables false
set_option linter.unusedSimpArgs false
set_option maxRecDepth 100000
set_option maxHeartbeats 40000000
variable {α:Type}
structure AppOk (L:Lay α) (t e:TypeId):Prop where
 under:Try.prog.underlying t=some (.slice e)
 info:∃z bytes,(Try.prog.info? e).map (fun i=> (i.zero,i.size,i.bytes))=some (some z,L.k,bytes)∧z.cells.size=L.k∧bytes≤1024
 pos:0 < L.k
 one:∀a,∀u∈L.cs a,u.oneCell'=true
theorem RdL.empty0 {L:Lay α} {C:Nat} {w:World} {l:List α} (h:RdL L C w none l):l=[]:=by
 rcases h with h|⟨b,off,h,_⟩
 ·exact h
 ·cases h
theorem RdL.news {L:Lay α} {C:Nat} {w:World} {ad:Addr} {l:List α} (hk:0 < L.k) (h:RdL L C w (some ad) l):∀j u,(l.flatMap L.cs)[j]? =some u→w.cell? (ad.add j)=some u:=by
 intro j u hj
 rcases h with h|⟨b,off,ho,hlt,r⟩
 ·subst h;simp at hj
 ·obtain rfl:ad=⟨b,off,none⟩:=by simpa using ho
  have hlen:j < l.length * L.k:=by
   have:=(List.getElem?_eq_some_iff.1 hj).1
   rwa [Q0u] at this
  have hjm:j % L.k < L.k:=Nat.mod_lt _ hk
  have hjd:j / L.k < l.length:=by rw [Nat.div_lt_iff_lt_mul hk];exact hlen
  have e:j=j / L.k * L.k+j % L.k:=by rw [Nat.mul_comm];exact (Nat.div_add_mod j L.k).symm
  have hg:=Q2P L l (j / L.k) (j % L.k) hjd hjm
  rw [←e,hj] at hg
  have hr:=r (j / L.k) hjd (j % L.k) hjm
  rw [←hg,Nat.add_assoc,←e] at hr
  have e2:(⟨b,off,none⟩:Addr).add j=⟨b,off+j,none⟩:=by by_cases h:j=0 <;> simp [Addr.add,h]
  rw [e2];exact hr
theorem Q6g {L:Lay α} (h:∀a,∀u∈L.cs a,u.oneCell'=true) (l:List α):∀u∈l.flatMap L.cs,u.oneCell'=true:=by
 intro u hu
 obtain ⟨a,_,ha⟩:=List.mem_flatMap.1 hu
 exact h a u ha
theorem Q2y {L:Lay α} {t e:TypeId} (ok:AppOk L t e) {w:World} (ty:TypeId) (base:Nat) (v:Value) (l0:List α) (hown:ownL L e w base v l0)
  (ob:Option Addr) (c C:Nat) (l:List α) (hnil:ob=none→c=0) (hR:RdL L C w ob l) (hlen:l0.length+l.length≤1073741824) (hbase:base≤w.heap.size):
  ∃v' w',(Builtin.append_ #[t,t] ty #[v,.slice ob l.length c]).run Try.prog w=.ok v' w'∧ownL L e w' base v' (l0++l)∧w.grownBy w' v.ownBlock∧(v'.ownBlock=v.ownBlock∨v'.ownBlock=some w.heap.size):=by
 obtain ⟨z,bytes,hinfo,hzs,hby⟩:=ok.info
 obtain ⟨i0,hi,hz0,hz1,hz2⟩:=info_parts hinfo
 cases ob with
 |none=>
  have e:=hR.empty0
  subst e
  have hc:=hnil rfl
  subst hc
  exact ⟨v,w,run_append_owned_none (P:=Try.prog) (w:=w) base t ty _ i0 L.k ok.under hi v _ _ hown,by simpa using hown,World.grownBy.refl _ _,.inl rfl⟩
 |some ad=>
  obtain ⟨v',w',h1,h2,h3,_,h5⟩:=run_append_own_at (P:=Try.prog) w base t ty _ i0 z L.k bytes ok.under hi hz0 hz1 hz2 hzs ok.pos v _ _ hown ad l.length c (l.flatMap L.cs) (Q0u L l) (hR.news ok.pos) (Q6g ok.one l)
   (by unfold maxLen;omega) (by have:(l0.length+l.length) * bytes≤1073741824 * 1024:=Nat.mul_le_mul hlen hby;omega) hbase
  exact ⟨v',w',h1,by unfold ownL;simpa using h2,h3,h5⟩
theorem Q16 {L:Lay α} {t e:TypeId} (ok:AppOk L t e) {ops:Array Oper} {o:Oper} {a:Act} {w:World} {K:Act→World→Prop} {Q:Exit→Act→World→Prop} {E:Prop} (hgd:o.guard=none) (s x:Operand)
  (ho:o.op=.call { callee:=.builtin .append,args:=#[s,x],argTypes:=#[t,t] }) (base:Nat) (v:Value) (l0:List α) (hs:a.eval s=v) (hown:ownL L e w base v l0)
  (ob:Option Addr) (c C:Nat) (l:List α) (m:Nat) (hm:m=l.length) (hx:a.eval x=.slice ob m c) (hnil:ob=none→c=0) (hR:RdL L C w ob l) (hlen:l0.length+l.length≤1073741824) (hbase:base≤w.heap.size)
  (h:∀v' w',ownL L e w' base v' (l0++l)→w.grownBy w' v.ownBlock→(v'.ownBlock=v.ownBlock∨v'.ownBlock=some w.heap.size)→K (a.put o.dst v') w'):if Region.wanted o (yielded ops a.tmps)=true then Oper.wp Try.prog o a w K Q else E:=by
 subst hm
 have hw:Region.wanted o (yielded ops a.tmps)=true:=by simp [Region.wanted,hgd]
 rw [if_pos hw]
 obtain ⟨v',w',hr,h1,h2,h3⟩:=Q2y ok o.type base v l0 hown ob c C l hnil hR hlen hbase
 unfold Oper.wp execOp
 simp only [ho,resolve,invoke,builtin,Sem.run_bind,Sem.run_pure,Result.andThen_ok,List.map_toArray,List.map_cons,List.map_nil,hs,hx,hr]
 exact h v' w' h1 h2 h3
theorem Q1O {L:Lay α} {t e:TypeId} (ok:AppOk L t e) {w:World} {ops:Array Oper} {rest:List Oper} {o:Oper} {a:Act} {Q:Exit→Act→World→Prop} (hgd:o.guard=none) (s x:Operand)
  (ho:o.op=.call { callee:=.builtin .append,args:=#[s,x],argTypes:=#[t,t] }) (base:Nat) (v:Value) (l0:List α) (hs:a.eval s=v) (hown:ownL L e w base v l0)
  (ob:Option Addr) (c C:Nat) (l:List α) (m:Nat) (hm:m=l.length) (hx:a.eval x=.slice ob m c) (hnil:ob=none→c=0) (hR:RdL L C w ob l) (hlen:l0.length+l.length≤1073741824) (hbase:base≤w.heap.size)
  (h:∀v' w',ownL L e w' base v' (l0++l)→w.grownBy w' v.ownBlock→(v'.ownBlock=v.ownBlock∨v'.ownBlock=some w.heap.size)→wpList Try.prog ops Q rest (a.put o.dst v') w'):wpList Try.prog ops Q (o::rest) a w:=by
 subst hm
 refine wpList_plain hgd fun K hK=> ?_
 obtain ⟨v',w',hr,h1,h2,h3⟩:=Q2y ok o.type base v l0 hown ob c C l hnil hR hlen hbase
 unfold Oper.wp execOp
 simp only [ho,resolve,invoke,builtin,Sem.run_bind,Sem.run_pure,Result.andThen_ok,List.map_toArray,List.map_cons,List.map_nil,hs,hx,hr]
 exact hK _ _ (h v' w' h1 h2 h3)
theorem Q6f {L:Lay α} (w:World) (e:TypeId):ownL L e (w.alloc (.cells #[] e)) w.heap.size (.slice (some ⟨w.heap.size,0,none⟩) 0 0) ([]:List α):=
 ⟨by simp,.inr ⟨w.heap.size,0,#[],rfl,Kaq _,heap_alloc_new w _,Kaq _,by unfold maxLen;omega,by simp,by simp⟩⟩
end Go.Proofs.Ytljogkoaaidlcaa
namespace Go.Proofs.Ytljogkoaaidlcaa
open Go.ChangeShapes Go.WideShapes Go.ChangeAt Go.RowKit Go.Joins
set_option linter.unusedVariables false
set_option linter.unusedSimpArgs false
set_option maxRecDepth 100000
set_option maxHeartbeats 40000000
def Q7a:Lay (Int × Int):=⟨2,fun a=> [.int .i64 a.1,.int .i64 a.2],(0,0),fun _=> rfl⟩
theorem Q7M:(Try.prog.info? 29).map (fun i=> (i.zero,i.size,i.bytes))=some (some (.agg #[.int .i64 0,.int .i64 0]),2,16):=by kernel_rfl
theorem Q8y:AppOk Q7a 136 29:=⟨Try.underlying136,⟨_,_,Q7M,rfl,by decide⟩,by decide,fun a u hu=> by
 simp [Q7a] at hu;rcases hu with rfl|rfl <;> rfl⟩
theorem Q7i (w:World) (x y:Int):RdL Q7a (w.alloc (.cells #[.int .i64 x,.int .i64 y] 29)).heap.size (w.alloc (.cells #[.int .i64 x,.int .i64 y] 29)) (some ⟨w.heap.size,0,none⟩) [(x,y)]:=by
 refine .inr ⟨w.heap.size,0,rfl,by simp,fun i hi j hj=> ?_⟩
 have hi0:i=0:=by simpa using hi
 have hj0:j < 2:=hj
 subst hi0
 match j,hj0 with
 |0,_=> simp [Q7a]
 |1,_=> simp [Q7a]
end Go.Proofs.Ytljogkoaaidlcaa
