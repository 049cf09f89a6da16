/- Drawn lists of backs. -/
import Derived.Test.YtpneolgdghbinaaGreatQSends40
namespace Go.Proofs.YtpneolgdghbinaaGreat
open Go.ChangeShapes Go.WideShapes Go.ChangeAt Go.RowKit Go.Joins
set_option linter.unusedVariables false
set_option linter.unusedSimpArgs false
set_option maxRecDepth 100000
set_option maxHeartbeats 40000000
theorem Q2Y {w:World} {ops:Array Oper} {rest:List Oper} {o:Oper} {a:Act} {Q:Exit→Act→World→Prop} (hgd:o.guard=none) (s x:Operand)
  (ho:o.op=.call { callee:=.builtin .append,args:=#[s,x],argTypes:=#[26,26] }) (base:Nat) (v:Value) (hs:List Bk) (he:a.eval s=v) (hown:Q1i w base v hs)
  (n:Nat) (i g:Int) (d:Bool) (hx:a.eval x=.slice (some ⟨n,0,none⟩) 1 1) (h0:w.cell? ⟨n,0,none⟩=some (.int .i64 i)) (h1:w.cell? ⟨n,1,none⟩=some (.int .i64 g)) (h2:w.cell? ⟨n,2,none⟩=some (.bool d)) (hlen:hs.length≤1000) (hbase:base≤w.heap.size)
  (h:∀v' w',Q1i w' base v' (hs++[(i,g,d)])→w.grownBy w' v.ownBlock→wpList Tryz.prog ops Q rest (a.put o.dst v') w'):wpList Tryz.prog ops Q (o::rest) a w:=by
 obtain ⟨i0,hi,hz0,hz1,hz2⟩:=info_parts QaT
 refine wpList_append_own _ hgd s x 26 ho base 119 i0 (.agg #[.int .i64 0,.int .i64 0,.bool false]) 3 24 Tryz.underlying26 hi hz0 hz1 hz2 rfl (by decide) v _ _ he hown ⟨n,0,none⟩ 1 1 [.int .i64 i,.int .i64 g,.bool d] hx rfl ?_ (by simp [Value.oneCell']) (by unfold maxLen;omega) (by omega) hbase ?_
 ·intro j u hj
  match j,hj with
  |0,hj=> simp at hj;subst hj;exact h0
  |1,hj=> simp at hj;subst hj;exact h1
  |2,hj=> simp at hj;subst hj;exact h2
 ·intro v' w' h1 h2 _
  refine h v' w' ?_ h2
  unfold Q1i ownL
  simpa [Q12] using h1
theorem Q2q {w w':World} {base k:Nat} {v:Value} {l:List Bk} (h:Q1i w base v l) (hg:w.grownBy w' (some k)) (hk:k < base):Q1i w' base v l:=
 World.ownsRow.kept h hg (by
  cases hob:v.ownBlock with
  |none=> exact .inl rfl
  |some j=> right;have:=(h.lt j hob).1;intro e;simp at e;omega)
theorem Qcm (k:Nat) (w:World) (hc:isCur k w) (hk:k < w.heap.size):
  Calls Tryz.prog 171 #[.pointer (some ⟨k,0,none⟩)] w fun e w'=> ∃v L,e=.returned v∧Q1i w' w.heap.size v L∧L.length≤6∧isCur k w'∧w.grownBy w' (some k):=by
 go_enter Tryz.func171,Tryz.ntmps171
 go_wp2
 go_loopw [3,4] (fun out iv wr=> ∃(j:Nat) (L:List Bk),j≤6∧iv=.int .i64 j∧Q1i wr w.heap.size out L∧L.length≤j∧isCur k wr∧w.grownBy wr (some k))
  (fun _ iv _=> 6 - (intOf iv).toNat)
 case atStart=> exact ⟨0,[],Kcq _,rfl,World.ownsRow_nil _ _ _ _,Kaq _,hc,World.grownBy.refl _ _⟩
 case round=>
  obtain ⟨j,L,hj,rfl,hv,hL,hcr,hgr⟩:=hrel;have HL:=Q02 hL;clear hL hc
  by_cases hlt:j < 6
  ·have z1:(j:Int) < 6:=by omega
   have hsr:w.heap.size≤wr.heap.size:=hgr.size
   go_wp2_with fail
   refine (Q1g k 2 _ hcr (by omega) (by omega)).mono ?_
   rintro e w1 ⟨y,rfl,hc1,hg1⟩
   have hs1:w.heap.size≤w1.heap.size:=Kdq hsr hg1.size;have hv1:=Q2q hv hg1 hk;have hG1:=Q05 hgr hg1;clear hv hcr hgr hg1
   cases y with
   |false=>
    have HC:=Q02 hc1;have HG:=Q02 hG1;have HV:=Q02 hv1;clear hc1 hG1 hv1
    go_wp2
    go_roundw
    case rel=> exact ⟨j+1,L,by omega,by go_num,HV.out,Nat.le_succ_of_le HL.out,HC.out,HG.out⟩
    case measure=> simp [intOf];omega
   |true=>
    have hc2:=hc1.alloc (by omega) (.cells #[.int .i64 1,.int .i64 1,.int .i64 2,.int .i64 10,.int .i64 100] 3)
    have hG2:=Q05 hG1 (Q0r w1 (.cells #[.int .i64 1,.int .i64 1,.int .i64 2,.int .i64 10,.int .i64 100] 3) k);have hv2:Q1i (w1.alloc (.cells #[.int .i64 1,.int .i64 1,.int .i64 2,.int .i64 10,.int .i64 100] 3)) w.heap.size u3 L:=World.ownsRow.alloc hv1 _;clear hc1 hG1 hv1
    go_wp2_with fail
    refine (Q0H k w1.heap.size [1,1,2,10,100] _ hc2 (by simp) (by omega) (by simp) (by simp) ?hcl).mono ?_
    case hcl=>
     intro q hq
     have:q=0∨q=1∨q=2∨q=3∨q=4:=by simp at hq;omega
     rcases this with h|h|h|h|h <;> subst h <;> simp
    rintro e w3 ⟨q,hq,rfl,hc3,hg3⟩
    generalize ([1,1,2,10,100]:List Int).getD q 0=x at *;have hG3:=Q05 hG2 hg3;have hv3:=Q2q hv2 hg3 hk;clear hc2 hG2 hv2 hg3
    go_wp2_with fail
    refine (Q1g k 5 _ hc3 (by omega) (by omega)).mono ?_
    rintro e w4 ⟨d,rfl,hc4,hg4⟩
    have hG4:=Q05 hG3 hg4;have hv4:=Q2q hv3 hg4 hk;have hs4:w.heap.size≤w4.heap.size:=hG4.size;have HC4:=Q02 hc4;have HG4:=Q02 hG4
    have hl4:L.length≤1000:=by have:=HL.out;omega
    have HV4:=Q02 hv4;clear hc3 hG3 hv3 hg4 hc4 hG4 hv4
    go_wp2_with (at_builtin;refine Q2Y rfl (.tmp 11) (.tmp 19) rfl w.heap.size _ L rfl (World.ownsRow.alloc HV4.out _) w4.heap.size j x d rfl ?c1 ?c2 ?c3 hl4 ?c4 ?_)
    case c1=> simp
    case c2=> simp
    case c3=> simp
    case c4=> simp;omega
    intro v5 w5 ho5 hg5
    have HA:=Q02 (World.ownsRow.alloc HV4.out (.cells #[.int .i64 j,.int .i64 x,.bool d] 119))
    have hb5:Below w.heap.size w4 w5:=((Below.refl w.heap.size w4).alloc hs4 _).grown hg5 (by simp;omega) (fun k h=> (HA.out.lt k h).1)
    have HR:=Q02 (show Q1i w5 w.heap.size v5 (L++[((j:Int),x,d)])∧isCur k w5∧w.grownBy w5 (some k) from ⟨ho5,HC4.out.below (hb5.mono hk),Q0B HG4.out hb5 (Kaq _)⟩);clear hg5 ho5 hb5
    go_wp2
    go_roundw
    case rel=> exact ⟨j+1,L++[((j:Int),x,d)],by omega,by go_num,HR.out.1,by have:=HL.out;simp;omega,HR.out.2.1,HR.out.2.2⟩
    case measure=> simp [intOf];omega
  ·have e:j=6:=by omega
   subst e;have HR:=Q02 (show Q1i wr w.heap.size u3 L∧isCur k wr∧w.grownBy wr (some k) from ⟨hv,hcr,hgr⟩);clear hv hcr hgr
   go_wp2
   go_ret
   exact ⟨_,L,rfl,HR.out.1,HL.out,HR.out.2.1,HR.out.2.2⟩
theorem QbN (k:Nat) (w:World) (hc:isCur k w) (hk:k < w.heap.size):
  Calls Tryz.prog 135 #[.pointer (some ⟨k,0,none⟩)] w fun e w'=> ∃v L,e=.returned v∧Q1i w' w.heap.size v L∧L.length≤7∧isCur k w'∧w.grownBy w' (some k):=by
 go_enter Tryz.func135,Tryz.ntmps135
 go_wp2_with fail
 refine (Qcm k _ hc hk).mono ?_
 rintro e w0 ⟨out,L,rfl,hv0,hL,hc0,hG0⟩
 have hs0:w.heap.size≤w0.heap.size:=hG0.size
 go_wp2_with fail
 refine (Q1g k 7 _ hc0 (by omega) (by omega)).mono ?_
 rintro e w1 ⟨y,rfl,hc1,hg1⟩
 have hs1:w.heap.size≤w1.heap.size:=Kdq hs0 hg1.size;have hv1:=Q2q hv0 hg1 hk;have hG1:=Q05 hG0 hg1;clear hv0 hc0 hG0 hg1 hc
 cases y with
 |false=>
  have HC:=Q02 hc1;have HG:=Q02 hG1;have HV:=Q02 hv1;clear hc1 hG1 hv1
  go_wp2
  go_ret
  exact ⟨_,L,rfl,HV.out,by omega,HC.out,HG.out⟩
 |true=>
  have hc2:=hc1.alloc (by omega) (.cells #[.int .i64 (-1),.int .i64 0,.int .i64 5,.int .i64 6] 3)
  have hG2:=Q05 hG1 (Q0r w1 (.cells #[.int .i64 (-1),.int .i64 0,.int .i64 5,.int .i64 6] 3) k);have hv2:Q1i (w1.alloc (.cells #[.int .i64 (-1),.int .i64 0,.int .i64 5,.int .i64 6] 3)) w.heap.size out L:=World.ownsRow.alloc hv1 _;clear hc1 hG1 hv1
  go_wp2_with fail
  refine (Q0H k w1.heap.size [-1,0,5,6] _ hc2 (by simp) (by omega) (by simp) (by simp) ?hcl).mono ?_
  case hcl=>
   intro q hq
   have:q=0∨q=1∨q=2∨q=3:=by simp at hq;omega
   rcases this with h|h|h|h <;> subst h <;> simp
  rintro e w3 ⟨q,hq,rfl,hc3,hg3⟩
  generalize ([-1,0,5,6]:List Int).getD q 0=i at *;have hG3:=Q05 hG2 hg3;have hv3:=Q2q hv2 hg3 hk;have hs3:w.heap.size≤w3.heap.size:=hG3.size;clear hc2 hG2 hv2 hg3
  have hc4:=hc3.alloc (by omega) (.cells #[.int .i64 0,.int .i64 1,.int .i64 101] 3)
  have hG4:=Q05 hG3 (Q0r w3 (.cells #[.int .i64 0,.int .i64 1,.int .i64 101] 3) k);have hv4:Q1i (w3.alloc (.cells #[.int .i64 0,.int .i64 1,.int .i64 101] 3)) w.heap.size out L:=World.ownsRow.alloc hv3 _;clear hc3 hG3 hv3
  go_wp2_with fail
  refine (Q0H k w3.heap.size [0,1,101] _ hc4 (by simp) (by omega) (by simp) (by simp) ?hcm).mono ?_
  case hcm=>
   intro q hq
   have:q=0∨q=1∨q=2:=by simp at hq;omega
   rcases this with h|h|h <;> subst h <;> simp
  rintro e w5 ⟨q',hq',rfl,hc5,hg5⟩
  generalize ([0,1,101]:List Int).getD q' 0=x at *;have HG5:=Q02 (Q05 hG4 hg5);have HV5:=Q02 (Q2q hv4 hg5 hk);have HC5:=Q02 hc5;have hs5:w.heap.size≤w5.heap.size:=HG5.out.size
  have hl4:L.length≤1000:=by omega
  clear hc4 hG4 hv4 hg5 hc5
  go_wp2_with (at_builtin;refine Q2Y rfl _ _ rfl w.heap.size _ L rfl (World.ownsRow.alloc HV5.out _) w5.heap.size i x false rfl ?c1 ?c2 ?c3 hl4 ?c4 ?_)
  case c1=> simp
  case c2=> simp
  case c3=> simp
  case c4=> simp;omega
  intro v6 w6 ho6 hg6
  have HA:=Q02 (World.ownsRow.alloc HV5.out (.cells #[.int .i64 i,.int .i64 x,.bool false] 119))
  have hb6:Below w.heap.size w5 w6:=((Below.refl w.heap.size w5).alloc hs5 _).grown hg6 (by simp;omega) (fun k h=> (HA.out.lt k h).1)
  have HR:=Q02 (show Q1i w6 w.heap.size v6 (L++[(i,x,false)])∧isCur k w6∧w.grownBy w6 (some k) from ⟨ho6,HC5.out.below (hb6.mono hk),Q0B HG5.out hb6 (Kaq _)⟩);clear hg6 ho6 hb6
  go_wp2
  go_ret
  exact ⟨_,L++[(i,x,false)],rfl,HR.out.1,by simp;omega,HR.out.2.1,HR.out.2.2⟩
end Go.Proofs.YtpneolgdghbinaaGreat
