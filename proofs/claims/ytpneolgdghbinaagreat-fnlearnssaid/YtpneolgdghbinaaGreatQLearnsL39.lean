/- Drawn lists of backs. -/
import Derived.Test.YtpneolgdghbinaaGreatQLearnsL38
namespace Go.Proofs.YtpneolgdghbinaaGreat
open Go.ChangeShapes Go.WideShapes Go.ChangeAt Go.RowKit Go.Joins
set_option linter.unusedVariables false
set_option linter.unusedSimpArgs false
set_option maxRecDepth 100000
set_option maxHeartbeats 40000000
theorem Q3e {w:World} {k:Array Oper} {rest:List Oper} {o:Oper} {a:Act} {Q:Exit→Act→World→Prop} (m:o.guard=none) (s x:Operand)
  (D:o.op=.call { callee:=.builtin .append,args:=#[s,x],argTypes:=#[26,26] }) (base:Nat) (v:Value) (hs:List Bk) (B:a.eval s=v) (f:Q1w w base v hs)
  (n:Nat) (i g:Int) (d:Bool) (C:a.eval x=.slice (some ⟨n,0,none⟩) 1 1) (A:w.cell? ⟨n,0,none⟩=some (.int .i64 i)) (t:w.cell? ⟨n,1,none⟩=some (.int .i64 g)) (h2:w.cell? ⟨n,2,none⟩=some (.bool d)) (y:hs.length≤1000) (c:base≤w.heap.size)
  (h:∀v' l,Q1w l base v' (hs++[(i,g,d)])→w.grownBy l v.ownBlock→wpList Tryz.prog k Q rest (a.put o.dst v') l):wpList Tryz.prog k Q (o::rest) a w:=by
 obtain ⟨z,hi,q,p,r⟩:=info_parts Qc6;refine wpList_append_own _ m s x 26 D base 119 z (.agg #[.int .i64 0,.int .i64 0,.bool false]) 3 24 Tryz.underlying26 hi q p r rfl (by decide) v _ _ B f ⟨n,0,none⟩ 1 1 [.int .i64 i,.int .i64 g,.bool d] C rfl ?_ (by simp [Value.oneCell']) (by unfold maxLen;omega) (by omega) c ?_
 ·intro j u b
  match j,b with
  |0,b=> simp at b;subst b;exact A
  |1,b=> simp at b;subst b;exact t
  |2,b=> simp at b;subst b;exact h2
 ·intro v' l t h2 _
  refine h v' l ?_ h2;unfold Q1w ownL
  simpa [Q1d] using t
theorem Q2J {w a:World} {base k:Nat} {v:Value} {l:List Bk} (h:Q1w w base v l) (b:w.grownBy a (some k)) (c:k < base):Q1w a base v l:=
 World.ownsRow.kept h b (by
  cases hob:v.ownBlock with
  |none=> exact .inl rfl
  |some j=> right;have:=(h.lt j hob).1;intro e;simp at e;omega)
theorem Qd9 (k:Nat) (w:World) (Z:isCur k w) (I:k < w.heap.size):
  Calls Tryz.prog 171 #[.pointer (some ⟨k,0,none⟩)] w fun e V=> ∃v L,e=.returned v∧Q1w V w.heap.size v L∧L.length≤6∧isCur k V∧w.grownBy V (some k):=by
 go_enter Tryz.func171,Tryz.ntmps171;go_wp2
 go_loopw [3,4] (fun out iv wr=> ∃(j:Nat) (L:List Bk),j≤6∧iv=.int .i64 j∧Q1w wr w.heap.size out L∧L.length≤j∧isCur k wr∧w.grownBy wr (some k))
  (fun _ iv _=> 6 - (intOf iv).toNat)
 case atStart=> exact ⟨0,[],Kcq _,rfl,World.ownsRow_nil _ _ _ _,Kaq _,Z,World.grownBy.refl _ _⟩
 case round=>
  obtain ⟨j,L,hj,rfl,hv,X,b,a⟩:=hrel;have H:=Q01 X;clear X Z
  by_cases hlt:j < 6
  ·have z1:(j:Int) < 6:=by omega
   have O:w.heap.size≤wr.heap.size:=a.size;go_wp2_with fail;refine (Q1v k 2 _ b (by omega) (by omega)).mono ?_;rintro e M ⟨y,rfl,c,i⟩;have aa:w.heap.size≤M.heap.size:=Kdq O i.size;have g:=Q2J hv i I;have f:=Q05 a i;clear hv b a i
   cases y with
   |false=>
    have HC:=Q01 c;have HG:=Q01 f;have HV:=Q01 g;clear c f g;go_wp2;go_roundw
    case rel=> exact ⟨j+1,L,by omega,by go_num,HV.out,Nat.le_succ_of_le H.out,HC.out,HG.out⟩
    case measure=> simp [intOf];omega
   |true=>
    have G:=c.alloc (by omega) (.cells #[.int .i64 1,.int .i64 1,.int .i64 2,.int .i64 10,.int .i64 100] 3);have C:=Q05 f (Q0t M (.cells #[.int .i64 1,.int .i64 1,.int .i64 2,.int .i64 10,.int .i64 100] 3) k);have B:Q1w (M.alloc (.cells #[.int .i64 1,.int .i64 1,.int .i64 2,.int .i64 10,.int .i64 100] 3)) w.heap.size u3 L:=World.ownsRow.alloc g _;clear c f g;go_wp2_with fail;refine (Q0P k M.heap.size [1,1,2,10,100] _ G (by simp) (by omega) (by simp) (by simp) ?hcl).mono ?_
    case hcl=>
     intro q Y
     have:q=0∨q=1∨q=2∨q=3∨q=4:=by simp at Y;omega
     rcases this with h|h|h|h|h <;> subst h <;> simp
    rintro e w3 ⟨q,Y,rfl,E,n⟩;generalize ([1,1,2,10,100]:List Int).getD q 0=x at *;have s:=Q05 C n;have t:=Q2J B n I;clear G C B n;go_wp2_with fail;refine (Q1v k 5 _ E (by omega) (by omega)).mono ?_;rintro e J ⟨d,rfl,A,m⟩;have l:=Q05 s m;have D:=Q2J t m I;have T:w.heap.size≤J.heap.size:=l.size;have R:=Q01 A;have P:=Q01 l
    have U:L.length≤1000:=by have:=H.out;omega
    have z:=Q01 D;clear E s t m A l D;go_wp2_with (at_builtin;refine Q3e rfl (.tmp 11) (.tmp 19) rfl w.heap.size _ L rfl (World.ownsRow.alloc z.out _) J.heap.size j x d rfl ?c1 ?c2 ?c3 U ?c4 ?_)
    case c1=> simp
    case c2=> simp
    case c3=> simp
    case c4=> simp;omega
    intro v5 N F u;have HA:=Q01 (World.ownsRow.alloc z.out (.cells #[.int .i64 j,.int .i64 x,.bool d] 119));have r:Below w.heap.size J N:=((Below.refl w.heap.size J).alloc T _).grown u (by simp;omega) (fun k h=> (HA.out.lt k h).1);have p:=Q01 (show Q1w N w.heap.size v5 (L++[((j:Int),x,d)])∧isCur k N∧w.grownBy N (some k) from ⟨F,R.out.below (r.mono I),Q0F P.out r (Kaq _)⟩);clear u F r;go_wp2;go_roundw
    case rel=> exact ⟨j+1,L++[((j:Int),x,d)],by omega,by go_num,p.out.1,by have:=H.out;simp;omega,p.out.2.1,p.out.2.2⟩
    case measure=> simp [intOf];omega
  ·have e:j=6:=by omega
   subst e;have p:=Q01 (show Q1w wr w.heap.size u3 L∧isCur k wr∧w.grownBy wr (some k) from ⟨hv,b,a⟩);clear hv b a;go_wp2;go_ret;exact ⟨_,L,rfl,p.out.1,H.out,p.out.2.1,p.out.2.2⟩
theorem QdE (k:Nat) (w:World) (hc:isCur k w) (z:k < w.heap.size):
  Calls Tryz.prog 135 #[.pointer (some ⟨k,0,none⟩)] w fun e X=> ∃v L,e=.returned v∧Q1w X w.heap.size v L∧L.length≤7∧isCur k X∧w.grownBy X (some k):=by
 go_enter Tryz.func135,Tryz.ntmps135;go_wp2_with fail;refine (Qd9 k _ hc z).mono ?_;rintro e w0 ⟨n,L,rfl,J,hL,t,m⟩;have Y:w.heap.size≤w0.heap.size:=m.size;go_wp2_with fail;refine (Q1v k 7 _ t (by omega) (by omega)).mono ?_;rintro e N ⟨y,rfl,a,d⟩;have aa:w.heap.size≤N.heap.size:=Kdq Y d.size;have c:=Q2J J d z;have b:=Q05 m d;clear J t m d hc
 cases y with
 |false=>
  have HC:=Q01 a;have HG:=Q01 b;have HV:=Q01 c;clear a b c;go_wp2;go_ret;exact ⟨_,L,rfl,HV.out,by omega,HC.out,HG.out⟩
 |true=>
  have I:=a.alloc (by omega) (.cells #[.int .i64 (-1),.int .i64 0,.int .i64 5,.int .i64 6] 3);have D:=Q05 b (Q0t N (.cells #[.int .i64 (-1),.int .i64 0,.int .i64 5,.int .i64 6] 3) k);have A:Q1w (N.alloc (.cells #[.int .i64 (-1),.int .i64 0,.int .i64 5,.int .i64 6] 3)) w.heap.size n L:=World.ownsRow.alloc c _;clear a b c;go_wp2_with fail;refine (Q0P k N.heap.size [-1,0,5,6] _ I (by simp) (by omega) (by simp) (by simp) ?hcl).mono ?_
  case hcl=>
   intro q O
   have:q=0∨q=1∨q=2∨q=3:=by simp at O;omega
   rcases this with h|h|h|h <;> subst h <;> simp
  rintro e M ⟨q,O,rfl,G,j⟩;generalize ([-1,0,5,6]:List Int).getD q 0=i at *;have f:=Q05 D j;have s:=Q2J A j z;have ab:w.heap.size≤M.heap.size:=f.size;clear I D A j;have u:=G.alloc (by omega) (.cells #[.int .i64 0,.int .i64 1,.int .i64 101] 3);have p:=Q05 f (Q0t M (.cells #[.int .i64 0,.int .i64 1,.int .i64 101] 3) k);have F:Q1w (M.alloc (.cells #[.int .i64 0,.int .i64 1,.int .i64 101] 3)) w.heap.size n L:=World.ownsRow.alloc s _;clear G f s;go_wp2_with fail
  refine (Q0P k M.heap.size [0,1,101] _ u (by simp) (by omega) (by simp) (by simp) ?hcm).mono ?_
  case hcm=>
   intro q O
   have:q=0∨q=1∨q=2:=by simp at O;omega
   rcases this with h|h|h <;> subst h <;> simp
  rintro e R ⟨q',ac,rfl,r,g⟩;generalize ([0,1,101]:List Int).getD q' 0=x at *;have E:=Q01 (Q05 p g);have C:=Q01 (Q2J F g z);have T:=Q01 r;have U:w.heap.size≤R.heap.size:=E.out.size
  have V:L.length≤1000:=by omega
  clear u p F g r;go_wp2_with (at_builtin;refine Q3e rfl _ _ rfl w.heap.size _ L rfl (World.ownsRow.alloc C.out _) R.heap.size i x false rfl ?c1 ?c2 ?c3 V ?c4 ?_)
  case c1=> simp
  case c2=> simp
  case c3=> simp
  case c4=> simp;omega
  intro v6 P B H;have HA:=Q01 (World.ownsRow.alloc C.out (.cells #[.int .i64 i,.int .i64 x,.bool false] 119));have l:Below w.heap.size R P:=((Below.refl w.heap.size R).alloc U _).grown H (by simp;omega) (fun k h=> (HA.out.lt k h).1);have Z:=Q01 (show Q1w P w.heap.size v6 (L++[(i,x,false)])∧isCur k P∧w.grownBy P (some k) from ⟨B,T.out.below (l.mono z),Q0F E.out l (Kaq _)⟩);clear H B l;go_wp2;go_ret;exact ⟨_,L++[(i,x,false)],rfl,Z.out.1,by simp;omega,Z.out.2.1,Z.out.2.2⟩
end Go.Proofs.YtpneolgdghbinaaGreat
