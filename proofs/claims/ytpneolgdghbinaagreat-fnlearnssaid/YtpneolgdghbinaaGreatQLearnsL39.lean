/- Drawn lists of backs. -/
import Derived.Test.YtpneolgdghbinaaGreatQLearnsL38
namespace Go.Proofs.YtpneolgdghbinaaGreat
open Go.ChangeShapes Go.WideShapes Go.ChangeAt Go.RowKit Go.Joins
set_option linter.unusedVariables false
set_option linter.unusedSimpArgs false
set_option maxRecDepth 100000
set_option maxHeartbeats 40000000
theorem Q3g {w:World} {k:Array Oper} {rest:List Oper} {o:Oper} {a:Act} {Q:Exit→Act→World→Prop} (p:o.guard=none) (s x:Operand)
  (B:o.op=.call { callee:=.builtin .append,args:=#[s,x],argTypes:=#[26,26] }) (base:Nat) (v:Value) (hs:List Bk) (A:a.eval s=v) (f:Q1t w base v hs)
  (n:Nat) (i g:Int) (d:Bool) (C:a.eval x=.slice (some ⟨n,0,none⟩) 1 1) (z:w.cell? ⟨n,0,none⟩=some (.int .i64 i)) (m:w.cell? ⟨n,1,none⟩=some (.int .i64 g)) (h2:w.cell? ⟨n,2,none⟩=some (.bool d)) (y:hs.length≤1000) (c:base≤w.heap.size)
  (h:∀v' l,Q1t l base v' (hs++[(i,g,d)])→w.grownBy l v.ownBlock→wpList Tryz.prog k Q rest (a.put o.dst v') l):wpList Tryz.prog k Q (o::rest) a w:=by
 obtain ⟨D,hi,q,r,t⟩:=info_parts QcB;refine wpList_append_own _ p s x 26 B base 119 D (.agg #[.int .i64 0,.int .i64 0,.bool false]) 3 24 Tryz.underlying26 hi q r t rfl (by decide) v _ _ A f ⟨n,0,none⟩ 1 1 [.int .i64 i,.int .i64 g,.bool d] C rfl ?_ (by simp [Value.oneCell']) (by unfold maxLen;omega) (by omega) c ?_
 ·intro j u b
  match j,b with
  |0,b=> simp at b;subst b;exact z
  |1,b=> simp at b;subst b;exact m
  |2,b=> simp at b;subst b;exact h2
 ·intro v' l m h2 _
  refine h v' l ?_ h2;unfold Q1t ownL
  simpa [Q1d] using m
theorem Q2G {w a:World} {base k:Nat} {v:Value} {l:List Bk} (h:Q1t w base v l) (b:w.grownBy a (some k)) (c:k < base):Q1t a base v l:=
 World.ownsRow.kept h b (by
  cases hob:v.ownBlock with
  |none=> exact .inl rfl
  |some j=> right;have:=(h.lt j hob).1;intro e;simp at e;omega)
theorem Qdg (k:Nat) (w:World) (Y:isCur k w) (I:k < w.heap.size):
  Calls Tryz.prog 171 #[.pointer (some ⟨k,0,none⟩)] w fun e V=> ∃v L,e=.returned v∧Q1t V w.heap.size v L∧L.length≤6∧isCur k V∧w.grownBy V (some k):=by
 go_enter Tryz.func171,Tryz.ntmps171;go_wp2
 go_loopw [3,4] (fun out iv wr=> ∃(j:Nat) (L:List Bk),j≤6∧iv=.int .i64 j∧Q1t wr w.heap.size out L∧L.length≤j∧isCur k wr∧w.grownBy wr (some k))
  (fun _ iv _=> 6 - (intOf iv).toNat)
 case atStart=> exact ⟨0,[],Kcq _,rfl,World.ownsRow_nil _ _ _ _,Kaq _,Y,World.grownBy.refl _ _⟩
 case round=>
  obtain ⟨j,L,hj,rfl,hv,X,f,a⟩:=hrel;have H:=Q01 X;clear X Y
  by_cases hlt:j < 6
  ·have z1:(j:Int) < 6:=by omega
   have U:w.heap.size≤wr.heap.size:=a.size;go_wp2_with fail;refine (Q1w k 2 _ f (by omega) (by omega)).mono ?_;rintro e J ⟨y,rfl,c,g⟩;have aa:w.heap.size≤J.heap.size:=Kdq U g.size;have i:=Q2G hv g I;have b:=Q05 a g;clear hv f a g
   cases y with
   |false=>
    have HC:=Q01 c;have HG:=Q01 b;have HV:=Q01 i;clear c b i;go_wp2;go_roundw
    case rel=> exact ⟨j+1,L,by omega,by go_num,HV.out,Nat.le_succ_of_le H.out,HC.out,HG.out⟩
    case measure=> simp [intOf];omega
   |true=>
    have z:=c.alloc (by omega) (.cells #[.int .i64 1,.int .i64 1,.int .i64 2,.int .i64 10,.int .i64 100] 3);have t:=Q05 b (Q0t J (.cells #[.int .i64 1,.int .i64 1,.int .i64 2,.int .i64 10,.int .i64 100] 3) k);have E:Q1t (J.alloc (.cells #[.int .i64 1,.int .i64 1,.int .i64 2,.int .i64 10,.int .i64 100] 3)) w.heap.size u3 L:=World.ownsRow.alloc i _;clear c b i;go_wp2_with fail;refine (Q0P k J.heap.size [1,1,2,10,100] _ z (by simp) (by omega) (by simp) (by simp) ?hcl).mono ?_
    case hcl=>
     intro q Z
     have:q=0∨q=1∨q=2∨q=3∨q=4:=by simp at Z;omega
     rcases this with h|h|h|h|h <;> subst h <;> simp
    rintro e w3 ⟨q,Z,rfl,A,p⟩;generalize ([1,1,2,10,100]:List Int).getD q 0=x at *;have u:=Q05 t p;have F:=Q2G E p I;clear z t E p;go_wp2_with fail;refine (Q1w k 5 _ A (by omega) (by omega)).mono ?_;rintro e M ⟨d,rfl,B,r⟩;have m:=Q05 u r;have G:=Q2G F r I;have T:w.heap.size≤M.heap.size:=m.size;have O:=Q01 B;have P:=Q01 m
    have R:L.length≤1000:=by have:=H.out;omega
    have s:=Q01 G;clear A u F r B m G;go_wp2_with (at_builtin;refine Q3g rfl (.tmp 11) (.tmp 19) rfl w.heap.size _ L rfl (World.ownsRow.alloc s.out _) M.heap.size j x d rfl ?c1 ?c2 ?c3 R ?c4 ?_)
    case c1=> simp
    case c2=> simp
    case c3=> simp
    case c4=> simp;omega
    intro v5 N D C;have HA:=Q01 (World.ownsRow.alloc s.out (.cells #[.int .i64 j,.int .i64 x,.bool d] 119));have n:Below w.heap.size M N:=((Below.refl w.heap.size M).alloc T _).grown C (by simp;omega) (fun k h=> (HA.out.lt k h).1);have l:=Q01 (show Q1t N w.heap.size v5 (L++[((j:Int),x,d)])∧isCur k N∧w.grownBy N (some k) from ⟨D,O.out.below (n.mono I),Q0F P.out n (Kaq _)⟩);clear C D n;go_wp2;go_roundw
    case rel=> exact ⟨j+1,L++[((j:Int),x,d)],by omega,by go_num,l.out.1,by have:=H.out;simp;omega,l.out.2.1,l.out.2.2⟩
    case measure=> simp [intOf];omega
  ·have e:j=6:=by omega
   subst e;have l:=Q01 (show Q1t wr w.heap.size u3 L∧isCur k wr∧w.grownBy wr (some k) from ⟨hv,f,a⟩);clear hv f a;go_wp2;go_ret;exact ⟨_,L,rfl,l.out.1,H.out,l.out.2.1,l.out.2.2⟩
theorem QdA (k:Nat) (w:World) (hc:isCur k w) (D:k < w.heap.size):
  Calls Tryz.prog 135 #[.pointer (some ⟨k,0,none⟩)] w fun e Z=> ∃v L,e=.returned v∧Q1t Z w.heap.size v L∧L.length≤7∧isCur k Z∧w.grownBy Z (some k):=by
 go_enter Tryz.func135,Tryz.ntmps135;go_wp2_with fail;refine (Qdg k _ hc D).mono ?_;rintro e w0 ⟨J,L,rfl,F,hL,t,f⟩;have X:w.heap.size≤w0.heap.size:=f.size;go_wp2_with fail;refine (Q1w k 7 _ t (by omega) (by omega)).mono ?_;rintro e N ⟨y,rfl,b,c⟩;have ab:w.heap.size≤N.heap.size:=Kdq X c.size;have d:=Q2G F c D;have a:=Q05 f c;clear F t f c hc
 cases y with
 |false=>
  have HC:=Q01 b;have HG:=Q01 a;have HV:=Q01 d;clear b a d;go_wp2;go_ret;exact ⟨_,L,rfl,HV.out,by omega,HC.out,HG.out⟩
 |true=>
  have u:=b.alloc (by omega) (.cells #[.int .i64 (-1),.int .i64 0,.int .i64 5,.int .i64 6] 3);have r:=Q05 a (Q0t N (.cells #[.int .i64 (-1),.int .i64 0,.int .i64 5,.int .i64 6] 3) k);have G:Q1t (N.alloc (.cells #[.int .i64 (-1),.int .i64 0,.int .i64 5,.int .i64 6] 3)) w.heap.size J L:=World.ownsRow.alloc d _;clear b a d;go_wp2_with fail;refine (Q0P k N.heap.size [-1,0,5,6] _ u (by simp) (by omega) (by simp) (by simp) ?hcl).mono ?_
  case hcl=>
   intro q M
   have:q=0∨q=1∨q=2∨q=3:=by simp at M;omega
   rcases this with h|h|h|h <;> subst h <;> simp
  rintro e O ⟨q,M,rfl,z,l⟩;generalize ([-1,0,5,6]:List Int).getD q 0=i at *;have g:=Q05 r l;have H:=Q2G G l D;have ac:w.heap.size≤O.heap.size:=g.size;clear u r G l;have A:=z.alloc (by omega) (.cells #[.int .i64 0,.int .i64 1,.int .i64 101] 3);have s:=Q05 g (Q0t O (.cells #[.int .i64 0,.int .i64 1,.int .i64 101] 3) k);have I:Q1t (O.alloc (.cells #[.int .i64 0,.int .i64 1,.int .i64 101] 3)) w.heap.size J L:=World.ownsRow.alloc H _;clear z g H;go_wp2_with fail
  refine (Q0P k O.heap.size [0,1,101] _ A (by simp) (by omega) (by simp) (by simp) ?hcm).mono ?_
  case hcm=>
   intro q M
   have:q=0∨q=1∨q=2:=by simp at M;omega
   rcases this with h|h|h <;> subst h <;> simp
  rintro e P ⟨q',aa,rfl,B,m⟩;generalize ([0,1,101]:List Int).getD q' 0=x at *;have n:=Q01 (Q05 s m);have p:=Q01 (Q2G I m D);have T:=Q01 B;have Y:w.heap.size≤P.heap.size:=n.out.size
  have V:L.length≤1000:=by omega
  clear A s I m B;go_wp2_with (at_builtin;refine Q3g rfl _ _ rfl w.heap.size _ L rfl (World.ownsRow.alloc p.out _) P.heap.size i x false rfl ?c1 ?c2 ?c3 V ?c4 ?_)
  case c1=> simp
  case c2=> simp
  case c3=> simp
  case c4=> simp;omega
  intro v6 R E C;have HA:=Q01 (World.ownsRow.alloc p.out (.cells #[.int .i64 i,.int .i64 x,.bool false] 119));have j:Below w.heap.size P R:=((Below.refl w.heap.size P).alloc Y _).grown C (by simp;omega) (fun k h=> (HA.out.lt k h).1);have U:=Q01 (show Q1t R w.heap.size v6 (L++[(i,x,false)])∧isCur k R∧w.grownBy R (some k) from ⟨E,T.out.below (j.mono D),Q0F n.out j (Kaq _)⟩);clear C E j;go_wp2;go_ret;exact ⟨_,L++[(i,x,false)],rfl,U.out.1,by simp;omega,U.out.2.1,U.out.2.2⟩
end Go.Proofs.YtpneolgdghbinaaGreat
