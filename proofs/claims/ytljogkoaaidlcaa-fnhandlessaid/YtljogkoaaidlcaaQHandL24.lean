/- 'append' of bytes onto a row of the call's own, whatever is appended: nil, empty, or read from memory. -/
import Derived.Laws.AppendOwnNone
import Derived.Maps.AppendAt
import Derived.Test.YtljogkoaaidlcaaQHandL02
namespace Go.Proofs.Ytljogkoaaidlcaa
open Go.ChangeShapes Go.WideShapes Go.ChangeAt Go.RowKit Go.Joins
set_option linter.unusedVariables false
set_option linter.unusedSimpArgs false
set_option maxRecDepth 100000
set_option maxHeartbeats 40000000
theorem Q5s {w:World} {ops:Array Oper} {rest:List Oper} {o:Oper} {a:Act} {Q:Exit→Act→World→Prop} (hgd:o.guard=none) (s x:Operand)
  (ho:o.op=.call { callee:=.builtin .append,args:=#[s,x],argTypes:=#[22,22] }) (base:Nat) (v:Value) (l0:List Int) (hs:a.eval s=v) (hown:ownB w base v l0)
  (ob:Option Addr) (c:Nat) (l:List Int) (hx:a.eval x=.slice ob l.length c) (hnil:ob=none→c=0) (hR:Rd w ob l) (hlen:l0.length+l.length≤1099511627776) (hbase:base≤w.heap.size)
  (h:∀v' w',ownB w' base v' (l0++l)→w.grownBy w' v.ownBlock→Below base w w'→wpList Try.prog ops Q rest (a.put o.dst v') w'):wpList Try.prog ops Q (o::rest) a w:=by
 obtain ⟨i0,hi,hz0,hz1,hz2⟩:=info_parts Q6b
 have hb:∀w',w.grownBy w' v.ownBlock→Below base w w':=fun w' hg=> (Below.refl _ _).grown hg hbase (fun k e=> (hown.lt k e).1)
 cases ob with
 |none=>
  have e:=hR.nil
  subst e
  have hc:=hnil rfl
  subst hc
  refine wpList_append_own_none hgd s x 22 ho base 5 i0 1 Try.underlying22 hi v _ _ hs hown hx ?_
  exact h v w (by simpa using hown) (World.grownBy.refl _ _) (Below.refl _ _)
 |some ad=>
  refine wpList_append_own _ hgd s x 22 ho base 5 i0 (.int .u8 0) 1 1 Try.underlying22 hi hz0 hz1 hz2 rfl (by decide) v _ _ hs hown ad l.length c (l.map (Value.int .u8)) hx (by simp) hR.news (ints_oneCell .u8 l) (by unfold maxLen;omega) (by omega) hbase ?_
  intro v' w' h1 h2 _
  exact h v' w' (by unfold ownB;simpa using h1) h2 (hb _ h2)
theorem Q31 {ops:Array Oper} {o:Oper} {a:Act} {w:World} {K:Act→World→Prop} {Q:Exit→Act→World→Prop} {E:Prop} (hgd:o.guard=none) (s x:Operand)
  (ho:o.op=.call { callee:=.builtin .append,args:=#[s,x],argTypes:=#[22,22] }) (base:Nat) (v:Value) (l0:List Int) (hs:a.eval s=v) (hown:ownB w base v l0)
  (ob:Option Addr) (c:Nat) (l:List Int) (m:Nat) (hm:m=l.length) (hx:a.eval x=.slice ob m c) (hnil:ob=none→c=0) (hR:Rd w ob l) (hlen:l0.length+l.length≤1099511627776) (hbase:base≤w.heap.size)
  (h:∀v' w',ownB w' base v' (l0++l)→Below base w w'→K (a.put o.dst v') w'):if Region.wanted o (yielded ops a.tmps)=true then Oper.wp Try.prog o a w K Q else E:=by
 subst hm
 have hw:Region.wanted o (yielded ops a.tmps)=true:=by simp [Region.wanted,hgd]
 rw [if_pos hw]
 obtain ⟨i0,hi,hz0,hz1,hz2⟩:=info_parts Q6b
 have hb:∀w',w.grownBy w' v.ownBlock→Below base w w':=fun w' hg=> (Below.refl _ _).grown hg hbase (fun k e=> (hown.lt k e).1)
 cases ob with
 |none=>
  have e:=hR.nil
  subst e
  have hc:=hnil rfl
  subst hc
  have hrun:=run_append_owned_none (P:=Try.prog) (w:=w) base 22 o.type 5 i0 1 Try.underlying22 hi v _ _ hown
  unfold Oper.wp
  simp [execOp,ho,resolve,invoke,builtin,hs,hx,hrun,Result.andThen]
  exact h v w (by simpa using hown) (Below.refl _ _)
 |some ad=>
  refine wp_append_own _ s x 22 ho base 5 i0 (.int .u8 0) 1 1 Try.underlying22 hi hz0 hz1 hz2 rfl (by decide) v _ _ hs hown ad l.length c (l.map (Value.int .u8)) hx (by simp) hR.news (ints_oneCell .u8 l) (by unfold maxLen;omega) (by omega) hbase ?_
  intro v' w' h1 h2 _
  exact h v' w' (by unfold ownB;simpa using h1) (hb _ h2)
end Go.Proofs.Ytljogkoaaidlcaa
