/- Several texts in one: AppL, App. -/
import Derived.Laws.AppendOwnNone
import Derived.Maps.AppendAt
import Derived.Test.YtpneolgdghbinaaGreatQSends03
namespace Go.Proofs.YtpneolgdghbinaaGreat
open Go.ChangeShapes Go.WideShapes Go.ChangeAt Go.RowKit Go.Joins
set_option linter.unusedVariables false
set_option linter.unusedSimpArgs false
set_option maxRecDepth 100000
set_option maxHeartbeats 40000000
variable {α:Type}
structure AppOk (L:Lay α) (t e:TypeId):Prop where
 under:Tryz.prog.underlying t=some (.slice e)
 info:∃z bytes,(Tryz.prog.info? e).map (fun i=> (i.zero,i.size,i.bytes))=some (some z,L.k,bytes)∧z.cells.size=L.k∧bytes≤1024
 pos:0 < L.k
 one:∀a,∀u∈L.cs a,u.oneCell'=true
theorem RdL.empty0 {L:Lay α} {C:Nat} {w:World} {l:List α} (h:RdL L C w none l):l=[]:=by
 rcases h with h|⟨b,off,h,_⟩
 ·exact h
 ·cases h
theorem RdL.news {L:Lay α} {C:Nat} {w:World} {ad:Addr} {l:List α} (hk:0 < L.k) (h:RdL L C w (some ad) l):∀j u,(l.flatMap L.cs)[j]? =some u→w.cell? (ad.add j)=some u:=by
 intro j u hj
 rcases h with h|⟨b,off,ho,hlt,r⟩
 ·subst h;simp at hj
 ·obtain rfl:ad=⟨b,off,none⟩:=by simpa using ho
  have hlen:j < l.length * L.k:=by
   have:=(List.getElem?_eq_some_iff.1 hj).1
   rwa [Q0s] at this
  have hjm:j % L.k < L.k:=Nat.mod_lt _ hk
  have hjd:j / L.k < l.length:=by rw [Nat.div_lt_iff_lt_mul hk];exact hlen
  have e:j=j / L.k * L.k+j % L.k:=by rw [Nat.mul_comm];exact (Nat.div_add_mod j L.k).symm
  have hg:=Q4h L l (j / L.k) (j % L.k) hjd hjm
  rw [←e,hj] at hg
  have hr:=r (j / L.k) hjd (j % L.k) hjm
  rw [←hg,Nat.add_assoc,←e] at hr
  have e2:(⟨b,off,none⟩:Addr).add j=⟨b,off+j,none⟩:=by by_cases h:j=0 <;> simp [Addr.add,h]
  rw [e2];exact hr
theorem Q5k {L:Lay α} (h:∀a,∀u∈L.cs a,u.oneCell'=true) (l:List α):∀u∈l.flatMap L.cs,u.oneCell'=true:=by
 intro u hu
 obtain ⟨a,_,ha⟩:=List.mem_flatMap.1 hu
 exact h a u ha
theorem Q4v {L:Lay α} {t e:TypeId} (ok:AppOk L t e) {w:World} (ty:TypeId) (base:Nat) (v:Value) (l0:List α) (hown:ownL L e w base v l0)
  (ob:Option Addr) (c C:Nat) (l:List α) (hnil:ob=none→c=0) (hR:RdL L C w ob l) (hlen:l0.length+l.length≤1073741824) (hbase:base≤w.heap.size):
  ∃v' w',(Builtin.append_ #[t,t] ty #[v,.slice ob l.length c]).run Tryz.prog w=.ok v' w'∧ownL L e w' base v' (l0++l)∧w.grownBy w' v.ownBlock∧(v'.ownBlock=v.ownBlock∨v'.ownBlock=some w.heap.size):=by
 obtain ⟨z,bytes,hinfo,hzs,hby⟩:=ok.info;obtain ⟨i0,hi,hz0,hz1,hz2⟩:=info_parts hinfo
 cases ob with
 |none=>
  have e:=hR.empty0;subst e;have hc:=hnil rfl;subst hc
  exact ⟨v,w,run_append_owned_none (P:=Tryz.prog) (w:=w) base t ty _ i0 L.k ok.under hi v _ _ hown,by simpa using hown,World.grownBy.refl _ _,.inl rfl⟩
 |some ad=>
  obtain ⟨v',w',h1,h2,h3,_,h5⟩:=run_append_own_at (P:=Tryz.prog) w base t ty _ i0 z L.k bytes ok.under hi hz0 hz1 hz2 hzs ok.pos v _ _ hown ad l.length c (l.flatMap L.cs) (Q0s L l) (hR.news ok.pos) (Q5k ok.one l)
   (by unfold maxLen;omega) (by have:(l0.length+l.length) * bytes≤1073741824 * 1024:=Nat.mul_le_mul hlen hby;omega) hbase
  exact ⟨v',w',h1,by unfold ownL;simpa using h2,h3,h5⟩
theorem Q0n {L:Lay α} {t e:TypeId} (ok:AppOk L t e) {ops:Array Oper} {o:Oper} {a:Act} {w:World} {K:Act→World→Prop} {Q:Exit→Act→World→Prop} {E:Prop} (hgd:o.guard=none) (s x:Operand)
  (ho:o.op=.call { callee:=.builtin .append,args:=#[s,x],argTypes:=#[t,t] }) (base:Nat) (v:Value) (l0:List α) (hs:a.eval s=v) (hown:ownL L e w base v l0)
  (ob:Option Addr) (c C:Nat) (l:List α) (m:Nat) (hm:m=l.length) (hx:a.eval x=.slice ob m c) (hnil:ob=none→c=0) (hR:RdL L C w ob l) (hlen:l0.length+l.length≤1073741824) (hbase:base≤w.heap.size)
  (h:∀v' w',ownL L e w' base v' (l0++l)→w.grownBy w' v.ownBlock→(v'.ownBlock=v.ownBlock∨v'.ownBlock=some w.heap.size)→K (a.put o.dst v') w'):if Region.wanted o (yielded ops a.tmps)=true then Oper.wp Tryz.prog o a w K Q else E:=by
 subst hm
 have hw:Region.wanted o (yielded ops a.tmps)=true:=by simp [Region.wanted,hgd]
 rw [if_pos hw]
 obtain ⟨v',w',hr,h1,h2,h3⟩:=Q4v ok o.type base v l0 hown ob c C l hnil hR hlen hbase
 unfold Oper.wp execOp
 simp only [ho,resolve,invoke,builtin,Sem.run_bind,Sem.run_pure,Result.andThen_ok,List.map_toArray,List.map_cons,List.map_nil,hs,hx,hr]
 exact h v' w' h1 h2 h3
theorem Q07 {L:Lay α} {t e:TypeId} (ok:AppOk L t e) {w:World} {ops:Array Oper} {rest:List Oper} {o:Oper} {a:Act} {Q:Exit→Act→World→Prop} (hgd:o.guard=none) (s x:Operand)
  (ho:o.op=.call { callee:=.builtin .append,args:=#[s,x],argTypes:=#[t,t] }) (base:Nat) (v:Value) (l0:List α) (hs:a.eval s=v) (hown:ownL L e w base v l0)
  (ob:Option Addr) (c C:Nat) (l:List α) (m:Nat) (hm:m=l.length) (hx:a.eval x=.slice ob m c) (hnil:ob=none→c=0) (hR:RdL L C w ob l) (hlen:l0.length+l.length≤1073741824) (hbase:base≤w.heap.size)
  (h:∀v' w',ownL L e w' base v' (l0++l)→w.grownBy w' v.ownBlock→(v'.ownBlock=v.ownBlock∨v'.ownBlock=some w.heap.size)→wpList Tryz.prog ops Q rest (a.put o.dst v') w'):wpList Tryz.prog ops Q (o::rest) a w:=by
 subst hm
 refine wpList_plain hgd fun K hK=> ?_
 obtain ⟨v',w',hr,h1,h2,h3⟩:=Q4v ok o.type base v l0 hown ob c C l hnil hR hlen hbase
 unfold Oper.wp execOp
 simp only [ho,resolve,invoke,builtin,Sem.run_bind,Sem.run_pure,Result.andThen_ok,List.map_toArray,List.map_cons,List.map_nil,hs,hx,hr]
 exact hK _ _ (h v' w' h1 h2 h3)
theorem Q3d {L:Lay α} (w:World) (e:TypeId):ownL L e (w.alloc (.cells #[] e)) w.heap.size (.slice (some ⟨w.heap.size,0,none⟩) 0 0) ([]:List α):=
 ⟨by simp,.inr ⟨w.heap.size,0,#[],rfl,Kaq _,heap_alloc_new w _,Kaq _,by unfold maxLen;omega,by simp,by simp⟩⟩
end Go.Proofs.YtpneolgdghbinaaGreat
namespace Go.Proofs.YtpneolgdghbinaaGreat
open Go.ChangeShapes Go.WideShapes Go.ChangeAt Go.RowKit Go.Joins
set_option linter.unusedVariables false
set_option linter.unusedSimpArgs false
set_option maxRecDepth 100000
set_option maxHeartbeats 40000000
theorem Q4F {w:World} {ops:Array Oper} {rest:List Oper} {o:Oper} {a:Act} {Q:Exit→Act→World→Prop} (hgd:o.guard=none) (s x:Operand)
  (ho:o.op=.call { callee:=.builtin .append,args:=#[s,x],argTypes:=#[22,22] }) (base:Nat) (v:Value) (l0:List Int) (hs:a.eval s=v) (hown:ownB w base v l0)
  (ob:Option Addr) (c:Nat) (l:List Int) (hx:a.eval x=.slice ob l.length c) (hnil:ob=none→c=0) (hR:Rd w ob l) (hlen:l0.length+l.length≤1099511627776) (hbase:base≤w.heap.size)
  (h:∀v' w',ownB w' base v' (l0++l)→w.grownBy w' v.ownBlock→Below base w w'→wpList Tryz.prog ops Q rest (a.put o.dst v') w'):wpList Tryz.prog ops Q (o::rest) a w:=by
 obtain ⟨i0,hi,hz0,hz1,hz2⟩:=info_parts QcE
 have hb:∀w',w.grownBy w' v.ownBlock→Below base w w':=fun w' hg=> (Below.refl _ _).grown hg hbase (fun k e=> (hown.lt k e).1)
 cases ob with
 |none=>
  have e:=hR.nil;subst e;have hc:=hnil rfl;subst hc
  refine wpList_append_own_none hgd s x 22 ho base 5 i0 1 Tryz.underlying22 hi v _ _ hs hown hx ?_
  exact h v w (by simpa using hown) (World.grownBy.refl _ _) (Below.refl _ _)
 |some ad=>
  refine wpList_append_own _ hgd s x 22 ho base 5 i0 (.int .u8 0) 1 1 Tryz.underlying22 hi hz0 hz1 hz2 rfl (by decide) v _ _ hs hown ad l.length c (l.map (Value.int .u8)) hx (by simp) hR.news (ints_oneCell .u8 l) (by unfold maxLen;omega) (by omega) hbase ?_
  intro v' w' h1 h2 _
  exact h v' w' (by unfold ownB;simpa using h1) h2 (hb _ h2)
theorem Q5C {ops:Array Oper} {o:Oper} {a:Act} {w:World} {K:Act→World→Prop} {Q:Exit→Act→World→Prop} {E:Prop} (hgd:o.guard=none) (s x:Operand)
  (ho:o.op=.call { callee:=.builtin .append,args:=#[s,x],argTypes:=#[22,22] }) (base:Nat) (v:Value) (l0:List Int) (hs:a.eval s=v) (hown:ownB w base v l0)
  (ob:Option Addr) (c:Nat) (l:List Int) (m:Nat) (hm:m=l.length) (hx:a.eval x=.slice ob m c) (hnil:ob=none→c=0) (hR:Rd w ob l) (hlen:l0.length+l.length≤1099511627776) (hbase:base≤w.heap.size)
  (h:∀v' w',ownB w' base v' (l0++l)→Below base w w'→K (a.put o.dst v') w'):if Region.wanted o (yielded ops a.tmps)=true then Oper.wp Tryz.prog o a w K Q else E:=by
 subst hm
 have hw:Region.wanted o (yielded ops a.tmps)=true:=by simp [Region.wanted,hgd]
 rw [if_pos hw]
 obtain ⟨i0,hi,hz0,hz1,hz2⟩:=info_parts QcE
 have hb:∀w',w.grownBy w' v.ownBlock→Below base w w':=fun w' hg=> (Below.refl _ _).grown hg hbase (fun k e=> (hown.lt k e).1)
 cases ob with
 |none=>
  have e:=hR.nil;subst e;have hc:=hnil rfl;subst hc;have hrun:=run_append_owned_none (P:=Tryz.prog) (w:=w) base 22 o.type 5 i0 1 Tryz.underlying22 hi v _ _ hown
  unfold Oper.wp
  simp [execOp,ho,resolve,invoke,builtin,hs,hx,hrun,Result.andThen]
  exact h v w (by simpa using hown) (Below.refl _ _)
 |some ad=>
  refine wp_append_own _ s x 22 ho base 5 i0 (.int .u8 0) 1 1 Tryz.underlying22 hi hz0 hz1 hz2 rfl (by decide) v _ _ hs hown ad l.length c (l.map (Value.int .u8)) hx (by simp) hR.news (ints_oneCell .u8 l) (by unfold maxLen;omega) (by omega) hbase ?_
  intro v' w' h1 h2 _
  exact h v' w' (by unfold ownB;simpa using h1) (hb _ h2)
end Go.Proofs.YtpneolgdghbinaaGreat
