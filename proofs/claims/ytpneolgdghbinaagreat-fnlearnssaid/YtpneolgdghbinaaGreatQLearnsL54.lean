/- Several texts in one: RouteMath, SRouteS, SRouteI, SRouteOf, SNext, SNext3, ShC, SSend, CutC, SHunt, SHunt2. -/
import Derived.Test.YtpneolgdghbinaaGreatQLearnsL53
import Derived.Test.YtpneolgdghbinaaGreatQLearnsL34
import Derived.Test.YtpneolgdghbinaaGreatQLearnsL48
namespace Go.Proofs.YtpneolgdghbinaaGreat
open Go.ChangeShapes Go.WideShapes Go.ChangeAt Go.RowKit Go.Joins
set_option linter.unusedVariables false
set_option linter.unusedSimpArgs false
set_option maxRecDepth 100000
set_option maxHeartbeats 40000000
def Q1M (ok:Bool) (h:Int) (c:List Int) (i:Nat):List (Int × Int):=(if ok=true then [(h,0)] else [])++((c.take i).filter (fun x=> !ok||x !=h)).map (fun x=> (x,0))
theorem Q7Y (ok:Bool) (h:Int) (c:List Int):Q1M ok h c 0=if ok=true then [(h,0)] else []:=by simp [Q1M]
theorem Q8Q {ok:Bool} {h:Int} {c:List Int} {i:Nat} (hi:i < c.length) (a:(!ok||c.getD i 0 !=h)=true):Q1M ok h c (i+1)=Q1M ok h c i++[(c.getD i 0,0)]:=by
 unfold Q1M
 have e:c.getD i 0=c[i]:=by simp [hi]
 rw [e] at a ⊢;rw [List.take_succ_eq_append_getElem hi,List.filter_append,List.map_append,List.append_assoc];simp only [List.filter_cons,a,if_true,List.filter_nil,List.map_cons,List.map_nil]
theorem Qap {ok:Bool} {h:Int} {c:List Int} {i:Nat} (hi:i < c.length) (a:(!ok||c.getD i 0 !=h)=false):Q1M ok h c (i+1)=Q1M ok h c i:=by
 unfold Q1M
 have e:c.getD i 0=c[i]:=by simp [hi]
 rw [e] at a;rw [List.take_succ_eq_append_getElem hi,List.filter_append,List.map_append];simp [a]
theorem Q3F (ok:Bool) (h:Int) (c:List Int) (i:Nat):(Q1M ok h c i).length≤i+1:=by
 unfold Q1M;rw [List.length_append,List.length_map];have b:=List.length_filter_le (fun x=> !ok||x !=h) (c.take i)
 have h2:(c.take i).length≤i:=by rw [List.length_take];omega
 have a:(if ok=true then [(h,(0:Int))] else []).length≤1:=by cases ok <;> simp
 omega
def Q4b (l:List (Int × Int)) (r:List Int) (i:Nat):List (Int × Int):=l++(r.take i).map (fun x=> (x,1))
theorem Q7v (l:List (Int × Int)) (r:List Int):Q4b l r 0=l:=by simp [Q4b]
theorem Q7a {l:List (Int × Int)} {r:List Int} {i:Nat} (hi:i < r.length):Q4b l r (i+1)=Q4b l r i++[(r.getD i 0,1)]:=by
 unfold Q4b
 have e:r.getD i 0=r[i]:=by simp [hi]
 rw [e,List.take_succ_eq_append_getElem hi,List.map_append,List.append_assoc]
 rfl
theorem Q6h (l:List (Int × Int)) (r:List Int) (i:Nat):(Q4b l r i).length≤l.length+i:=by
 unfold Q4b;rw [List.length_append,List.length_map,List.length_take];omega
def Q7I (ok:Bool) (h:Int) (c:List Int) (op:Bool) (r:List Int):List (Int × Int):=if op=true then Q4b (Q1M ok h c c.length) r r.length else Q1M ok h c c.length
theorem Q7r {k a p:Int} (h:Q1P k=true) (b:Q0h a p=true):∃q:Nat,Q2n k a p=(q:Int)∧q < 8:=by
 have c:0≤Q2n k a p:=by unfold Q2n;omega
 have h2:Q2n k a p < 8:=by unfold Q2n;omega
 exact ⟨(Q2n k a p).toNat,by omega,by omega⟩
structure Ring (lr:List (List (List Int))):Prop where
 pos:1≤lr.length
 le:lr.length≤3
 ok:∀i,i < lr.length→Q1r (lr.getD i [])=true
theorem Ring.len {lr:List (List (List Int))} (h:Ring lr) (i:Nat) (hi:i < lr.length):(lr.getD i []).length=8:=(Q4O (h.ok i hi)).1
theorem Ring.two {lr:List (List (List Int))} (h:Ring lr) (i:Nat) (hi:i < lr.length) (b:Nat) (hb:b < 8):((lr.getD i []).getD b []).length≤2:=Q9P ((Q4O (h.ok i hi)).2 b hb)
theorem Ring.ids {c:List (List (List Int))} (h:Ring c) {b:Nat} (g:b < 8):∀x∈Q3l c b,0≤x∧x < 6:=fun x a=> by
 unfold Q3l at a;rw [Q9Y] at a
 rcases a with a|⟨t,f,a⟩
 ·cases a
 ·obtain ⟨i,hi,rfl⟩:=List.getElem_of_mem f
  have e:c.getD i []=c[i]:=by simp [hi]
  have d:=(Q4O (h.ok i hi)).2 b g;rw [e] at d;exact Qgn d x a
theorem Ring.six {lr:List (List (List Int))} (h:Ring lr) {b:Nat} (hb:b < 8):(Q3l lr b).length≤6:=
 Q9w 6 _ (Q8d b lr List.nodup_nil) (h.ids hb)
theorem QhJ {w:World} {x y:Int} {T:TypeId}:RdL Q6P (w.alloc (.cells #[.int .i64 x,.int .i64 y] T)).heap.size (w.alloc (.cells #[.int .i64 x,.int .i64 y] T)) (some ⟨w.heap.size,0,none⟩) [(x,y)]:=
 .inr ⟨w.heap.size,0,rfl,by simp,fun i hi j c=> by
  have b:i=0:=by simpa using hi
  subst b
  have a:j=0∨j=1:=by have:j < 2:=c;omega
  rcases a with rfl|rfl
  ·simp [go_sem,Q6P]
  ·simp [go_sem,Q6P]⟩
def Q4d (kp:Int) (lr:List (List (List Int))) (lt:List Sl) (a b f:Int):List (Int × Int):=Q7I (Q0Z lt a b).2 (Q6j lt a b).v (Q3l lr (Q2n kp a b).toNat) (Q7B f) ((lr.getD 0 []).getD (Q2n kp a b).toNat [])
theorem QiJ {k:Int} (h:Q1P k=true):0≤k∧k < 1000000:=by unfold Q1P at h;simpa using h
theorem Q7g (S base:Nat) (m id:Int) (v:Value) (l:List (Int × Int)) (w:World) (z:w.heap[S]? =some (.cells #[v] 41 (0,0))) (F:ownL Q6P 50 w base v l) (T:l.length≤1000) (M:base≤w.heap.size):
  Calls Tryz.prog 90 #[.int .i64 m,.int .i64 id,.pointer (some ⟨S,0,none⟩)] w fun e y=> e=.returned (.tuple #[])∧∃v',y.heap[S]? =some (.cells #[v'] 41 (0,0))∧ownL Q6P 50 y base v' (l++[(id,m)])∧(∀B,B≤S→B≤base→Below B w y)∧(∀(l2:List Int) (r:Value),ownL Q2w 3 w 0 r l2→ownL Q2w 3 y 0 r l2):=by
 obtain ⟨D,C,J,_⟩:=ownL.open (L:=Q6P) F;subst J;have s:S < w.heap.size:=(Array.getElem?_eq_some_iff.1 z).1;have I:w.cell? ⟨S,0,none⟩=some (.slice D l.length C):=Q00 z 0 _ rfl;have u:=Q01 (World.ownsRow.alloc F (.cells #[.int .i64 id,.int .i64 m] 50));have c:Below w.heap.size w (w.alloc (.cells #[.int .i64 id,.int .i64 m] 50)):=(Below.refl _ _).alloc (Kaq _) _;have N:=bC c I s;have n:=Q01 ((c.block S s).trans z);have E:=Q01 c;clear c z F;go_enter Tryz.func90,Tryz.ntmps90
 go_wp2_with (first|(at_builtin;refine Q08 Qjo rfl (.tmp 5) (.tmp 9) rfl base _ l rfl u.out (some ⟨w.heap.size,0,none⟩) 1 _ [(id,m)] 1 rfl rfl (by simp) QhJ (by simp;omega) (by simp;omega) ?_));intro R g i a _;obtain ⟨b,f,G,_⟩:=ownL.open (L:=Q6P) i;obtain ⟨d,t⟩:∃x,(l++[(id,m)]).length=x:=⟨_,rfl⟩;rw [t] at G;subst G;clear t
 have H:w.heap.size < g.heap.size:=by have:=a.size;simp at this;omega
 have q:g.heap[S]? =some (.cells #[.slice D l.length C] 41 (0,0)):=by
  refine (a.block S (by simp;omega) ?_).trans n.out;intro e
  rcases Q1Y u.out n.out (by decide) with h|h
  ·rw [h] at e;cases e
  ·exact h e.symm
 have j:Hid ((g.setCell ⟨S,0,none⟩ (.slice b d f)).heap[S]? =some (.cells #[.slice b d f] 41 (0,0))∧ownL Q6P 50 (g.setCell ⟨S,0,none⟩ (.slice b d f)) base (.slice b d f) (l++[(id,m)])∧(∀B,B≤S→B≤base→Below B w (g.setCell ⟨S,0,none⟩ (.slice b d f)))∧(∀(l2:List Int) (r:Value),ownL Q2w 3 w 0 r l2→ownL Q2w 3 (g.setCell ⟨S,0,none⟩ (.slice b d f)) 0 r l2)):=by
  refine ⟨Q06 q 0 _,World.ownsRow.kept i (Q0I g S 0 (.slice b d f)) (Q1Y i q (by decide)),fun B A h2=> ?_,fun l2 r h=> ?_⟩
  ·exact ((((Below.refl B w).alloc (by omega) _).grown a (by simp;omega) (fun k h=> Kdq h2 (u.out.lt k h).1)).setCell (p:=⟨S,0,none⟩) A _)
  ·have A:=World.ownsRow.alloc h (.cells #[.int .i64 id,.int .i64 m] 50)
   have h2:=World.ownsRow.kept A a (Q2G A u.out (by decide));exact World.ownsRow.kept h2 (Q0I g S 0 (.slice b d f)) (Q1Y h2 q (by decide))
 have P:g.cell? ⟨S,0,none⟩=some (.slice D l.length C):=Q00 q 0 _ rfl;have O:=Q02 q 0;clear q a i u n E;go_wp2
 go_end0
 exact ⟨rfl,.slice b d f,j.out.1,j.out.2.1,j.out.2.2.1,j.out.2.2.2⟩
theorem Qfg {m:Pm} {q:Nat} (h:Q28 m=true) (h8:q < 8):Qe1 m (q:Int)=Q3l m.ring q:=by
 unfold Qe1;rw [h,decide_eq_true (show (0:Int)≤q by omega),decide_eq_true (show (q:Int) < 8 by omega)];simp
theorem Ring.of {m:Pm} (h:Q28 m=true):Ring m.ring:=by
 obtain ⟨_,_,h3,h4,h5⟩:=Q1B h;exact ⟨h3,h4,h5⟩
theorem Q9X {k a p:Int} (h:Q1P k=true) (hf:Q0h a p=true):Q12 k a p=Q2n k a p:=by
 unfold Q12;have h1:=QiJ h;rw [if_pos ⟨h1.1,h1.2,hf⟩]
theorem Qe8 {a b f s:Int} {n:Nat} (h:Q0B a b f s n=true):Q2A a b f s n=Q7B f:=by
 unfold Q2A;rw [h];rfl
theorem Qf8 (g nt xc base:Nat) (kq:Int) (yo:Option Addr) (yn yc:Nat) (sq kp:Int) (uo:Option Addr) (un uc:Nat) (vo:Option Addr) (vn vc:Nat) (lb:List Bk) (lr:List (List (List Int))) (lt:List Sl) (a b f s:Int) (po:Option Addr) (pn pc:Nat) (w:World)
  (be:nt=lt.length) (hn:0 < lt.length) (hl:lt.length≤1048576) (bB:pn≤maxLen) (bq:Q0B a b f s pn=true) (a2:Q0h a b=true) (hv:(Q0Z lt a b).2=true→0≤(Q6j lt a b).v) (hp:Q86 w.heap.size w (plv kp (.slice uo un uc) (.slice vo vn vc)) ⟨kp,lb,lr⟩) (a0:Q28 ⟨kp,lb,lr⟩=true) (a5:Q3q ⟨kp,lb,lr⟩) (ho:w.ownsRow base Q1H 5 (.slice (some ⟨g,0,none⟩) nt xc) nt (lt.flatMap Q0g.cs)):
  Calls Tryz.prog 39 #[Qce (.slice (some ⟨g,0,none⟩) nt xc) kq (.slice yo yn yc) sq kp (.slice uo un uc) (.slice vo vn vc),pkt a b f s (.slice po pn pc)] w fun e w'=> ∃v,e=.returned v∧ownL Q6P 50 w' w.heap.size v (Q4d kp lr lt a b f)∧Below w.heap.size w w':=by
 have hk:Q1P kp=true:=(Q1B a0).1;have hr:Ring lr:=Ring.of a0;have aA:=Q01 (fun W=> Q6H kp a b W);rw [Q9X hk a2] at aA;obtain ⟨qn,hq,aJ⟩:=Q7r hk a2;have aC:=Q01 (show Q4d kp lr lt a b f=Q7I (Q0Z lt a b).2 (Q6j lt a b).v (Q3l lr qn) (Q7B f) ((lr.getD 0 []).getD qn []) by unfold Q4d;rw [hq];rfl);rw [hq] at aA;have an:=Q01 (fun W (T:Below w.heap.size w W)=> Q8p g 0 xc lt a b W hn hl a2 (Kbq (ho.lt g rfl).2 T.size) (Q1t (Q03 ho T) be));rw [←be] at an
 have ap:=Q01 (fun W (T:Below w.heap.size w W)=> Q67 (plv kp (.slice uo un uc) (.slice vo vn vc)) ⟨kp,lb,lr⟩ (qn:Int) W ((hp.kept T (Kaq _)).le T.size) a5);rw [Qfg a0 aJ] at ap;have aB:=Q01 (fun W=> Q5P a b f s po pn pc W bB);rw [Qe8 bq] at aB;obtain ⟨bT,bR,e9,_,hG⟩:=hp;simp only [Value.agg.injEq,Array.mk.injEq,List.cons.injEq,and_true,true_and] at e9;obtain ⟨bG,bE⟩:=e9;subst bG bE;dsimp only at hG ap;obtain ⟨oz,cz,ez⟩:=RiR.len hG;injection ez with ez1 ez2 ez3;obtain ⟨b1,f1,u1,e1,bA,bk,bb⟩:=RiRows.at hG (Kaq _) 0 hr.pos;subst e1;obtain ⟨o3,c3,e3,_⟩:=RiT.rd bb;subst e3
 obtain ⟨b2,f2,u2,e2,aW,a1,bx⟩:=RiRows.at bb (Kaq _) qn (by rw [hr.len 0 hr.pos];exact aJ);subst e2;obtain ⟨o9,c9,e9,bo⟩:=RiV.open bx;subst e9;rw [hr.len 0 hr.pos,Nat.add_zero] at bk;have h2:=hr.two 0 hr.pos qn aJ;have h6:=hr.six aJ;have bm:=Q01 (hr.ids aJ)
 have bN:0 < vn:=by have:=hr.pos;omega
 have bM:(qn:Int) < 8:=by omega
 clear bb bx hG hr hq hk a2 ho a0 a5 bq bB ez1 ez2 ez3;obtain ⟨row,a7⟩:∃r,(lr.getD 0 []).getD qn []=r:=⟨_,rfl⟩;rw [a7] at a1 bo h2 aC;have bz:=Q01 bo;obtain ⟨m,hm⟩:∃r,row.length=r:=⟨_,rfl⟩;rw [hm] at a1 h2;have a3:=Q01 hm;have ay:=Q01 (show Q4z lt a b=if (Q0Z lt a b).2=true then (Q6j lt a b).v else -1 from rfl);obtain ⟨h,hh⟩:∃q,(Q6j lt a b).v=q:=⟨_,rfl⟩;obtain ⟨ok,bl⟩:∃q,(Q0Z lt a b).2=q:=⟨_,rfl⟩;obtain ⟨cs,bh⟩:∃q,Q3l lr qn=q:=⟨_,rfl⟩;obtain ⟨op,bi⟩:∃q,Q7B f=q:=⟨_,rfl⟩;obtain ⟨hi,ao⟩:∃q,Q4z lt a b=q:=⟨_,rfl⟩;rw [ao] at an ay;rw [hh,bl] at ay hv
 rw [bh] at ap h6 bm;rw [bi] at aB;rw [hh,bl,bh,bi] at aC;have a6:=Q01 bk;have a4:=Q01 a1;clear a7 hm hh bl bh bi ao bo be hn hl bk a1
 have bO:∀(fn:Fn) (first cap:Array Value) (w:World),(Instr.makeFunc fn first cap).run Tryz.prog w=.ok (.func fn first cap) w:=fun _ _ _ _=> rfl
 obtain ⟨W0,aj⟩:∃W,(((w.alloc (.cells #[.slice (some ⟨g,0,none⟩) nt xc,.int .i64 kq,.slice yo yn yc,.int .i64 sq,.int .i64 kp,.slice uo un uc,.slice (some ⟨b1,f1,none⟩) vn vc] 93)).alloc (.cells #[.int .i64 a,.int .i64 b,.int .i64 f,.int .i64 s,.slice po pn pc] 38)).alloc (.cells #[.slice none 0 0] 41))=W:=⟨_,rfl⟩;have aG:=alb0v0v3 aj;have HB:=Q01 aG;clear aG;have zx:=alz0v0v3 aj;obtain ⟨x0,x1,x2,x3,x4,x5,x6⟩:=alc7v0v3 aj;have zp:=alz0v1v3 aj;obtain ⟨p0,p1,p2,p3,p4⟩:=alc5v1v3 aj;have bP:=alz0v2v3 aj
 have bS:W0.cell? ⟨w.heap.size+1+1,0,none⟩=some (.slice none 0 0):=by rw [←aj];simp [go_sem]
 have bu:Hid _:=alx0v2v3 aj
 have bL:w.heap.size+1+1+1=W0.heap.size:=by rw [←aj];simp
 have d:w.heap.size < w.heap.size+1+1:=by omega
 have j:w.heap.size+1 < w.heap.size+1+1:=by omega
 have af:=HB;clear HB
 cases ok with
 |false=>
  have ao:hi=(-1):=by rw [ay.out];rfl
  rw [ao] at an;clear ay ao;have aY:=Q01 (Q7Y false h cs);clear hv;go_enter Tryz.func39,Tryz.ntmps39;go_wp2_with fail;refine (an.out W0 af.out).mono ?_;rintro e v1 ⟨rfl,T⟩;have aL:Hid (v1.heap[w.heap.size+1+1]? =some (.cells #[.slice none 0 0] 41 (0,0))):=(T.block _ (by omega)).trans bu.out;have A:Hid (Below (w.heap.size+1+1) W0 v1):=T.mono (by omega);have aZ:=T.size;clear T an;have J:=bC A.out x0 d;have O:=bC A.out x1 d;have C:=bC A.out x2 d;have G:=bC A.out x3 d;have E:=bC A.out x4 d;have M:=bC A.out x5 d;have I:=bC A.out x6 d
  have H:=bC A.out p0 j;have N:=bC A.out p1 j;have F:=bC A.out p2 j;have D:=bC A.out p3 j;have P:=bC A.out p4 j;have aX:=Q01 (World.ownsRow_nil v1 W0.heap.size 50 2);obtain ⟨v2,bH⟩:∃W,v1=W:=⟨_,rfl⟩;subst bH;have ah:=aL;have aM:=aX;have R:=A;clear aL aX A aZ;go_wp2_with fail;refine (aA.out v1).mono ?_;rintro e v3 ⟨rfl,T⟩;clear J O C G E M I H N F D P;have ag:=Q01 ((T.block _ (Array.getElem?_eq_some_iff.1 ah.out).1).trans ah.out);have aR:=Q01 (Q03 aM.out T)
  have z:=Q01 (R.out.trans (T.mono (by have:=(Array.getElem?_eq_some_iff.1 ah.out).1;omega)));clear T ah aM R aA;have J:=bC z.out x0 d;have O:=bC z.out x1 d;have C:=bC z.out x2 d;have G:=bC z.out x3 d;have E:=bC z.out x4 d;have M:=bC z.out x5 d;have I:=bC z.out x6 d;have H:=bC z.out p0 j;have N:=bC z.out p1 j;have F:=bC z.out p2 j;have D:=bC z.out p3 j;have P:=bC z.out p4 j;go_wp2_with fail;refine (ap.out v3 (af.out.trans (z.out.mono (by omega)))).mono ?_;rintro e v4 ⟨cv,rfl,am,T⟩
  clear J O C G E M I H N F D P;have aE:=Q01 ((T.block _ (Array.getElem?_eq_some_iff.1 ag.out).1).trans ag.out);have aF:=Q01 (Q03 aR.out T);have B:=Q01 (z.out.trans (T.mono (by have:=(Array.getElem?_eq_some_iff.1 ag.out).1;omega)));have ak:Hid (ownL Q2w 3 v4 0 cv cs):=Q04 am (Kcq _);clear T am ag aR z ap;obtain ⟨co,cc,e5,_⟩:=ownL.open (L:=Q2w) ak.out;subst e5;obtain ⟨n,aw⟩:∃n,cs.length=n:=⟨_,rfl⟩;rw [aw] at ak h6 ⊢;have aK:=Q01 aw;clear aw;have J:=bC B.out x0 d;have O:=bC B.out x1 d;have C:=bC B.out x2 d
  have G:=bC B.out x3 d;have E:=bC B.out x4 d;have M:=bC B.out x5 d;have I:=bC B.out x6 d;have H:=bC B.out p0 j;have N:=bC B.out p1 j;have F:=bC B.out p2 j;have D:=bC B.out p3 j;have P:=bC B.out p4 j;go_wp2
  go_loopw [35] (fun iv wr=> ∃i:Nat,i≤n∧iv=.int .i64 (i:Int)∧∃sv,Hid (wr.heap[w.heap.size+1+1]? =some (.cells #[sv] 41 (0,0)))∧Hid (ownL Q6P 50 wr W0.heap.size sv (Q1M false h cs i))∧Hid (ownL Q2w 3 wr 0 (.slice co n cc) cs)∧Hid (Below (w.heap.size+1+1) W0 wr))
   (fun iv _=> n - (intOf iv).toNat)
  case atStart=> exact ⟨0,Kcq _,rfl,_,aE.out,by rw [aY.out];exact aF.out,ak.out,B.out⟩
  case round=>
   clear J O C G E M I H N F D P;clear aE aF ak B aY
   rename World=> wr
   obtain ⟨i,bK,rfl,sv,HS,HO,HC,t⟩:=hrel;have J:=bC t.out x0 d;have O:=bC t.out x1 d;have C:=bC t.out x2 d;have G:=bC t.out x3 d;have E:=bC t.out x4 d;have M:=bC t.out x5 d;have I:=bC t.out x6 d;have H:=bC t.out p0 j;have N:=bC t.out p1 j;have F:=bC t.out p2 j;have D:=bC t.out p3 j;have P:=bC t.out p4 j;have aD:=t.out.size
   by_cases hlt:i < n
   ·have bv:(i:Int) < (n:Int):=by omega
    have ab:i < cs.length:=by rw [aK.out];exact hlt
    obtain ⟨bJ,bD,e5,bf⟩:=ownL.open (L:=Q2w) HC.out;injection e5 with e51 e52 e53;subst e51;clear e52 e53
    rcases bf with hh|⟨b3,f3,rfl,aT,ae⟩
    ·rw [hh] at ab;exact absurd ab (Nat.not_lt_zero _)
    have ar:=RdL.int ae i ab;clear ae;have av:=Q3F false h cs i;have ax:=Q01 (fun h9=> Q8Q (ok:=false) (h:=h) (c:=cs) ab h9);have az:=Q01 (fun h9=> Qap (ok:=false) (h:=h) (c:=cs) ab h9);obtain ⟨aq,ac⟩:∃q,Q1M false h cs i=q:=⟨_,rfl⟩;rw [ac] at HO av ax az;clear ac;have bd:=bm.out (cs.getD i 0) (by simp [ab]);obtain ⟨y,hy⟩:∃y,cs.getD i 0=y:=⟨_,rfl⟩;rw [hy] at ar ax az bd;clear hy
    have hx:¬y= -1:=by omega
    have Z:=Q01 (ax.out (by simp));have Y:=Q01 (Q7g (w.heap.size+1+1) W0.heap.size 0 y sv aq wr HS.out HO.out (by omega) aD);go_wp2_with fail;refine (Y.out).mono ?_;rintro e w7 ⟨rfl,bn,aH,aN,U,aV⟩;clear Y;have ad:=Q01 aH;have V:=Q01 aN;have p:=Q01 (t.out.trans (U (w.heap.size+1+1) (Kaq _) (by omega)));have a9:=Q01 (aV _ _ HC.out);clear aH aN U aV;go_wp2;go_roundw
    case rel=> exact ⟨i+1,by omega,by go_num,bn,ad.out,by rw [Z.out];exact V.out,a9.out,p.out⟩
    case measure=> simp [intOf];omega
   ·have e:i=n:=by omega
    subst e
    have au:Hid (Q1M false h cs cs.length=Q1M false h cs i):=by unfold Hid;rw [aK.out]
    go_wp2_with fail;refine (aB.out wr).mono ?_;rintro e w7 ⟨rfl,U⟩;have ad:=Q01 ((U.block _ (Array.getElem?_eq_some_iff.1 HS.out).1).trans HS.out);have V:=Q01 (Q03 HO.out U);have p:=Q01 (t.out.trans (U.mono (by omega)));clear J O C G E M I H N F D P;clear U HO HC t aD aB HS;obtain ⟨ai,X⟩:∃x,Q1M false h cs i=x:=⟨_,rfl⟩;rw [X] at V au;have a8:=Q3F false h cs i;rw [X] at a8;clear X
    cases op with
    |false=>
     have s7:w7.cell? ⟨w.heap.size+1+1,0,none⟩=some sv:=Q00 ad.out 0 _ rfl;obtain ⟨oo,oc,e6,_⟩:=ownL.open (L:=Q6P) V.out;subst e6;go_wp2;go_ret;exact ⟨_,rfl,by rw [aC.out];unfold Q7I;rw [if_neg (by decide),au.out];exact Q04 V.out (by omega),af.out.trans (p.out.mono (by omega))⟩
    |true=>
     have J:=bC p.out x0 d;have O:=bC p.out x1 d;have C:=bC p.out x2 d;have G:=bC p.out x3 d;have E:=bC p.out x4 d;have M:=bC p.out x5 d;have I:=bC p.out x6 d;have H:=bC p.out p0 j;have N:=bC p.out p1 j;have F:=bC p.out p2 j;have D:=bC p.out p3 j;have P:=bC p.out p4 j;have aa:=Q01 (af.out.trans (p.out.mono (show w.heap.size≤w.heap.size+1+1 by omega)));have aP:=bC aa.out a6.out bA;have aO:=bC aa.out a4.out aW;go_wp2
     go_loopw [57] (fun kv wq=> ∃k:Nat,k≤m∧kv=.int .i64 (k:Int)∧∃sv,Hid (wq.heap[w.heap.size+1+1]? =some (.cells #[sv] 41 (0,0)))∧Hid (ownL Q6P 50 wq W0.heap.size sv (Q4b ai row k))∧Hid (Below (w.heap.size+1+1) W0 wq))
      (fun kv _=> m - (intOf kv).toNat)
     case atStart=> exact ⟨0,Kcq _,rfl,_,ad.out,by rw [Q7v];exact V.out,p.out⟩
     case round=>
      clear J O C G E M I H N F D P;clear aP aO V p ad aa
      rename World=> wq
      obtain ⟨k,bI,rfl,aS,HS,HO,u⟩:=hrel;have bg:=u.out.size;have aa:=Q01 (af.out.trans (u.out.mono (show w.heap.size≤w.heap.size+1+1 by omega)));have J:=bC u.out x0 d;have O:=bC u.out x1 d;have C:=bC u.out x2 d;have G:=bC u.out x3 d;have E:=bC u.out x4 d;have M:=bC u.out x5 d;have I:=bC u.out x6 d;have H:=bC u.out p0 j;have N:=bC u.out p1 j;have F:=bC u.out p2 j;have D:=bC u.out p3 j;have P:=bC u.out p4 j
      by_cases hlk:k < m
      ·have bw:(k:Int) < (m:Int):=by omega
       have al:k < row.length:=by rw [a3.out];exact hlk
       rcases bz.out with hh|⟨b3,f3,rfl,aT,ae⟩
       ·rw [hh] at al;exact absurd al (Nat.not_lt_zero _)
       have ar:=bC aa.out (RdL.int ae k al) aT;clear ae;have av:=Q6h ai row k;have Z:=Q01 (Q7a (l:=ai) al);obtain ⟨aq,ac⟩:∃q,Q4b ai row k=q:=⟨_,rfl⟩;rw [ac] at HO av Z;clear ac;obtain ⟨y,hy⟩:∃y,row.getD k 0=y:=⟨_,rfl⟩;rw [hy] at ar Z;clear hy;have Y:=Q01 (Q7g (w.heap.size+1+1) W0.heap.size 1 y aS aq wq HS.out HO.out (by omega) bg);go_wp2_with fail;refine (Y.out).mono ?_;rintro e w8 ⟨rfl,bc,aQ,aI,aU,_⟩;clear Y;have bp:=Q01 aQ;have ba:=Q01 aI;have bj:=Q01 (u.out.trans (aU (w.heap.size+1+1) (Kaq _) (by omega)));clear aQ aI aU;go_wp2;go_roundw
       case rel=> exact ⟨k+1,by omega,by go_num,bc,bp.out,by rw [Z.out];exact ba.out,bj.out⟩
       case measure=> simp [intOf];omega
      ·have e:k=m:=by omega
       subst e;have s7:wq.cell? ⟨w.heap.size+1+1,0,none⟩=some aS:=Q00 HS.out 0 _ rfl;obtain ⟨oo,oc,e6,_⟩:=ownL.open (L:=Q6P) HO.out;subst e6;go_wp2;go_ret;exact ⟨_,rfl,by rw [aC.out];unfold Q7I;rw [if_pos rfl,au.out,a3.out];exact Q04 HO.out (by omega),aa.out⟩
 |true=>
  have ao:hi=h:=by rw [ay.out];rfl
  rw [ao] at an;clear ay ao;have aY:=Q01 (Q7Y true h cs);have bU:0≤h:=hv (by first|rfl|trivial)
  have bQ:¬(h= -1):=by omega
  clear hv;go_enter Tryz.func39,Tryz.ntmps39;go_wp2_with fail;refine (an.out W0 af.out).mono ?_;rintro e v1 ⟨rfl,T⟩;have aL:Hid (v1.heap[w.heap.size+1+1]? =some (.cells #[.slice none 0 0] 41 (0,0))):=(T.block _ (by omega)).trans bu.out;have A:Hid (Below (w.heap.size+1+1) W0 v1):=T.mono (by omega);have aZ:=T.size;clear T an;have J:=bC A.out x0 d;have O:=bC A.out x1 d;have C:=bC A.out x2 d;have G:=bC A.out x3 d;have E:=bC A.out x4 d;have M:=bC A.out x5 d;have I:=bC A.out x6 d;have H:=bC A.out p0 j;have N:=bC A.out p1 j
  have F:=bC A.out p2 j;have D:=bC A.out p3 j;have P:=bC A.out p4 j;have aX:=Q01 (World.ownsRow_nil v1 W0.heap.size 50 2);have Y:=Q01 (Q7g (w.heap.size+1+1) W0.heap.size 0 h _ [] v1 aL.out aX.out (by simp) aZ);go_wp2_with fail;refine (Y.out).mono ?_;rintro e v2 ⟨rfl,sv,bt,bs,aW,_⟩;clear J O C G E M I H N F D P;clear Y;have ah:=Q01 bt;have aM:=Q01 bs;have R:=Q01 (A.out.trans (aW (w.heap.size+1+1) (Kaq _) (by omega)));clear bt bs aW aL aX A aZ;have J:=bC R.out x0 d;have O:=bC R.out x1 d
  have C:=bC R.out x2 d;have G:=bC R.out x3 d;have E:=bC R.out x4 d;have M:=bC R.out x5 d;have I:=bC R.out x6 d;have H:=bC R.out p0 j;have N:=bC R.out p1 j;have F:=bC R.out p2 j;have D:=bC R.out p3 j;have P:=bC R.out p4 j;go_wp2_with fail;refine (aA.out v2).mono ?_;rintro e v3 ⟨rfl,T⟩;clear J O C G E M I H N F D P;have ag:=Q01 ((T.block _ (Array.getElem?_eq_some_iff.1 ah.out).1).trans ah.out);have aR:=Q01 (Q03 aM.out T)
  have z:=Q01 (R.out.trans (T.mono (by have:=(Array.getElem?_eq_some_iff.1 ah.out).1;omega)));clear T ah aM R aA;have J:=bC z.out x0 d;have O:=bC z.out x1 d;have C:=bC z.out x2 d;have G:=bC z.out x3 d;have E:=bC z.out x4 d;have M:=bC z.out x5 d;have I:=bC z.out x6 d;have H:=bC z.out p0 j;have N:=bC z.out p1 j;have F:=bC z.out p2 j;have D:=bC z.out p3 j;have P:=bC z.out p4 j;go_wp2_with fail;refine (ap.out v3 (af.out.trans (z.out.mono (by omega)))).mono ?_;rintro e v4 ⟨cv,rfl,am,T⟩
  clear J O C G E M I H N F D P;have aE:=Q01 ((T.block _ (Array.getElem?_eq_some_iff.1 ag.out).1).trans ag.out);have aF:=Q01 (Q03 aR.out T);have B:=Q01 (z.out.trans (T.mono (by have:=(Array.getElem?_eq_some_iff.1 ag.out).1;omega)));have ak:Hid (ownL Q2w 3 v4 0 cv cs):=Q04 am (Kcq _);clear T am ag aR z ap;obtain ⟨co,cc,e5,_⟩:=ownL.open (L:=Q2w) ak.out;subst e5;obtain ⟨n,aw⟩:∃n,cs.length=n:=⟨_,rfl⟩;rw [aw] at ak h6 ⊢;have aK:=Q01 aw;clear aw;have J:=bC B.out x0 d;have O:=bC B.out x1 d;have C:=bC B.out x2 d
  have G:=bC B.out x3 d;have E:=bC B.out x4 d;have M:=bC B.out x5 d;have I:=bC B.out x6 d;have H:=bC B.out p0 j;have N:=bC B.out p1 j;have F:=bC B.out p2 j;have D:=bC B.out p3 j;have P:=bC B.out p4 j;go_wp2
  go_loopw [35] (fun iv wr=> ∃i:Nat,i≤n∧iv=.int .i64 (i:Int)∧∃sv,Hid (wr.heap[w.heap.size+1+1]? =some (.cells #[sv] 41 (0,0)))∧Hid (ownL Q6P 50 wr W0.heap.size sv (Q1M true h cs i))∧Hid (ownL Q2w 3 wr 0 (.slice co n cc) cs)∧Hid (Below (w.heap.size+1+1) W0 wr))
   (fun iv _=> n - (intOf iv).toNat)
  case atStart=> exact ⟨0,Kcq _,rfl,_,aE.out,by rw [aY.out];exact aF.out,ak.out,B.out⟩
  case round=>
   clear J O C G E M I H N F D P;clear aE aF ak B aY
   rename World=> wr
   obtain ⟨i,bK,rfl,sv,HS,HO,HC,t⟩:=hrel;have J:=bC t.out x0 d;have O:=bC t.out x1 d;have C:=bC t.out x2 d;have G:=bC t.out x3 d;have E:=bC t.out x4 d;have M:=bC t.out x5 d;have I:=bC t.out x6 d;have H:=bC t.out p0 j;have N:=bC t.out p1 j;have F:=bC t.out p2 j;have D:=bC t.out p3 j;have P:=bC t.out p4 j;have aD:=t.out.size
   by_cases hlt:i < n
   ·have bv:(i:Int) < (n:Int):=by omega
    have ab:i < cs.length:=by rw [aK.out];exact hlt
    obtain ⟨bJ,bD,e5,bf⟩:=ownL.open (L:=Q2w) HC.out;injection e5 with e51 e52 e53;subst e51;clear e52 e53
    rcases bf with hh|⟨b3,f3,rfl,aT,ae⟩
    ·rw [hh] at ab;exact absurd ab (Nat.not_lt_zero _)
    have ar:=RdL.int ae i ab;clear ae;have av:=Q3F true h cs i;have ax:=Q01 (fun h9=> Q8Q (ok:=true) (h:=h) (c:=cs) ab h9);have az:=Q01 (fun h9=> Qap (ok:=true) (h:=h) (c:=cs) ab h9);obtain ⟨aq,ac⟩:∃q,Q1M true h cs i=q:=⟨_,rfl⟩;rw [ac] at HO av ax az;clear ac;have bd:=bm.out (cs.getD i 0) (by simp [ab]);obtain ⟨y,hy⟩:∃y,cs.getD i 0=y:=⟨_,rfl⟩;rw [hy] at ar ax az bd;clear hy
    by_cases hx:y=h
    ·have Z:=Q01 (az.out (by rw [hx];simp))
     subst hx;go_wp2;go_roundw
     case rel=> exact ⟨i+1,by omega,by go_num,sv,HS.out,by rw [Z.out];exact HO.out,HC.out,t.out⟩
     case measure=> simp [intOf];omega
    ·have bV:¬h=y:=fun e=> hx e.symm
     have Z:=Q01 (ax.out (by simp [hx]));have Y:=Q01 (Q7g (w.heap.size+1+1) W0.heap.size 0 y sv aq wr HS.out HO.out (by omega) aD);go_wp2_with fail;refine (Y.out).mono ?_;rintro e w7 ⟨rfl,bn,aH,aN,U,aV⟩;clear Y;have ad:=Q01 aH;have V:=Q01 aN;have p:=Q01 (t.out.trans (U (w.heap.size+1+1) (Kaq _) (by omega)));have a9:=Q01 (aV _ _ HC.out);clear aH aN U aV;go_wp2;go_roundw
     case rel=> exact ⟨i+1,by omega,by go_num,bn,ad.out,by rw [Z.out];exact V.out,a9.out,p.out⟩
     case measure=> simp [intOf];omega
   ·have e:i=n:=by omega
    subst e
    have au:Hid (Q1M true h cs cs.length=Q1M true h cs i):=by unfold Hid;rw [aK.out]
    go_wp2_with fail;refine (aB.out wr).mono ?_;rintro e w7 ⟨rfl,U⟩;have ad:=Q01 ((U.block _ (Array.getElem?_eq_some_iff.1 HS.out).1).trans HS.out);have V:=Q01 (Q03 HO.out U);have p:=Q01 (t.out.trans (U.mono (by omega)));clear J O C G E M I H N F D P;clear U HO HC t aD aB HS;obtain ⟨ai,X⟩:∃x,Q1M true h cs i=x:=⟨_,rfl⟩;rw [X] at V au;have a8:=Q3F true h cs i;rw [X] at a8;clear X
    cases op with
    |false=>
     have s7:w7.cell? ⟨w.heap.size+1+1,0,none⟩=some sv:=Q00 ad.out 0 _ rfl;obtain ⟨oo,oc,e6,_⟩:=ownL.open (L:=Q6P) V.out;subst e6;go_wp2;go_ret;exact ⟨_,rfl,by rw [aC.out];unfold Q7I;rw [if_neg (by decide),au.out];exact Q04 V.out (by omega),af.out.trans (p.out.mono (by omega))⟩
    |true=>
     have J:=bC p.out x0 d;have O:=bC p.out x1 d;have C:=bC p.out x2 d;have G:=bC p.out x3 d;have E:=bC p.out x4 d;have M:=bC p.out x5 d;have I:=bC p.out x6 d;have H:=bC p.out p0 j;have N:=bC p.out p1 j;have F:=bC p.out p2 j;have D:=bC p.out p3 j;have P:=bC p.out p4 j;have aa:=Q01 (af.out.trans (p.out.mono (show w.heap.size≤w.heap.size+1+1 by omega)));have aP:=bC aa.out a6.out bA;have aO:=bC aa.out a4.out aW;go_wp2
     go_loopw [57] (fun kv wq=> ∃k:Nat,k≤m∧kv=.int .i64 (k:Int)∧∃sv,Hid (wq.heap[w.heap.size+1+1]? =some (.cells #[sv] 41 (0,0)))∧Hid (ownL Q6P 50 wq W0.heap.size sv (Q4b ai row k))∧Hid (Below (w.heap.size+1+1) W0 wq))
      (fun kv _=> m - (intOf kv).toNat)
     case atStart=> exact ⟨0,Kcq _,rfl,_,ad.out,by rw [Q7v];exact V.out,p.out⟩
     case round=>
      clear J O C G E M I H N F D P;clear aP aO V p ad aa
      rename World=> wq
      obtain ⟨k,bI,rfl,aS,HS,HO,u⟩:=hrel;have bg:=u.out.size;have aa:=Q01 (af.out.trans (u.out.mono (show w.heap.size≤w.heap.size+1+1 by omega)));have J:=bC u.out x0 d;have O:=bC u.out x1 d;have C:=bC u.out x2 d;have G:=bC u.out x3 d;have E:=bC u.out x4 d;have M:=bC u.out x5 d;have I:=bC u.out x6 d;have H:=bC u.out p0 j;have N:=bC u.out p1 j;have F:=bC u.out p2 j;have D:=bC u.out p3 j;have P:=bC u.out p4 j
      by_cases hlk:k < m
      ·have bw:(k:Int) < (m:Int):=by omega
       have al:k < row.length:=by rw [a3.out];exact hlk
       rcases bz.out with hh|⟨b3,f3,rfl,aT,ae⟩
       ·rw [hh] at al;exact absurd al (Nat.not_lt_zero _)
       have ar:=bC aa.out (RdL.int ae k al) aT;clear ae;have av:=Q6h ai row k;have Z:=Q01 (Q7a (l:=ai) al);obtain ⟨aq,ac⟩:∃q,Q4b ai row k=q:=⟨_,rfl⟩;rw [ac] at HO av Z;clear ac;obtain ⟨y,hy⟩:∃y,row.getD k 0=y:=⟨_,rfl⟩;rw [hy] at ar Z;clear hy;have Y:=Q01 (Q7g (w.heap.size+1+1) W0.heap.size 1 y aS aq wq HS.out HO.out (by omega) bg);go_wp2_with fail;refine (Y.out).mono ?_;rintro e w8 ⟨rfl,bc,aQ,aI,aU,_⟩;clear Y;have bp:=Q01 aQ;have ba:=Q01 aI;have bj:=Q01 (u.out.trans (aU (w.heap.size+1+1) (Kaq _) (by omega)));clear aQ aI aU;go_wp2;go_roundw
       case rel=> exact ⟨k+1,by omega,by go_num,bc,bp.out,by rw [Z.out];exact ba.out,bj.out⟩
       case measure=> simp [intOf];omega
      ·have e:k=m:=by omega
       subst e;have s7:wq.cell? ⟨w.heap.size+1+1,0,none⟩=some aS:=Q00 HS.out 0 _ rfl;obtain ⟨oo,oc,e6,_⟩:=ownL.open (L:=Q6P) HO.out;subst e6;go_wp2;go_ret;exact ⟨_,rfl,by rw [aC.out];unfold Q7I;rw [if_pos rfl,au.out,a3.out];exact Q04 HO.out (by omega),aa.out⟩
theorem Q7H {a b f s:Int} {n:Nat} (h:Q0B a b f s n=true):Q0h a b=true:=by
 unfold Q0B at h;simp only [Bool.and_eq_true] at h
 simp_all
theorem Q7j (a b f s:Int) (o:Option Addr) (cap:Nat) (l:List Int) (w:World) (m:Rd w o l) (g:o=none→cap=0) (P:l.length≤1048576):
  Calls Tryz.prog 106 #[pkt a b f s (.slice o l.length cap)] w fun e k=> ∃v,e=.returned (pkt a b f s v)∧ownB k w.heap.size v l∧Below w.heap.size w k:=by
 have d:Below w.heap.size w ((w.alloc (.cells #[.int .i64 a,.int .i64 b,.int .i64 f,.int .i64 s,.slice o l.length cap] 38)).alloc (.cells #[.int .i64 0,.int .i64 0,.int .i64 0,.int .i64 0,.slice none 0 0] 38)):=((Below.refl _ _).alloc (Kaq _) _).alloc (by simp) _
 have x:((w.alloc (.cells #[.int .i64 a,.int .i64 b,.int .i64 f,.int .i64 s,.slice o l.length cap] 38)).alloc (.cells #[.int .i64 0,.int .i64 0,.int .i64 0,.int .i64 0,.slice none 0 0] 38)).heap.size=w.heap.size+2:=by simp
 have i:boxed w.heap.size a b f s (.slice o l.length cap) ((w.alloc (.cells #[.int .i64 a,.int .i64 b,.int .i64 f,.int .i64 s,.slice o l.length cap] 38)).alloc (.cells #[.int .i64 0,.int .i64 0,.int .i64 0,.int .i64 0,.slice none 0 0] 38)):=by unfold boxed;simp
 have j:empty5 (w.heap.size+1) ((w.alloc (.cells #[.int .i64 a,.int .i64 b,.int .i64 f,.int .i64 s,.slice o l.length cap] 38)).alloc (.cells #[.int .i64 0,.int .i64 0,.int .i64 0,.int .i64 0,.slice none 0 0] 38)):=by
  have:=Q5W (w.alloc (.cells #[.int .i64 a,.int .i64 b,.int .i64 f,.int .i64 s,.slice o l.length cap] 38)) 38
  simpa only [World.size_alloc] using this
 have n:((w.alloc (.cells #[.int .i64 a,.int .i64 b,.int .i64 f,.int .i64 s,.slice o l.length cap] 38)).alloc (.cells #[.int .i64 0,.int .i64 0,.int .i64 0,.int .i64 0,.slice none 0 0] 38)).frozen? ⟨w.heap.size,4,none⟩=false:=by simp
 go_enter Tryz.func106,Tryz.ntmps106;go_wp2_with (at_builtin;refine Q5c rfl _ _ rfl (w.heap.size+2) (.slice none 0 0) [] rfl (World.ownsRow_nil _ _ _ _) o cap l rfl g (m.kept d) ?c1 ?c2 ?_)
 case c1=> simp;omega
 case c2=> omega
 generalize ((w.alloc (.cells #[.int .i64 a,.int .i64 b,.int .i64 f,.int .i64 s,.slice o l.length cap] 38)).alloc (.cells #[.int .i64 0,.int .i64 0,.int .i64 0,.int .i64 0,.slice none 0 0] 38))=w0 at *;intro v z hv E c;replace hv:ownB z (w.heap.size+2) v l:=hv;obtain ⟨D,A,h,_⟩:=hv.open;subst h;replace i:=i.kept c (by omega);replace j:=j.kept c (by omega);replace n:=(c.frozen (p:=⟨w.heap.size,4,none⟩) (by show w.heap.size < w.heap.size+2;omega)).trans n;have C:=Q01 (d.trans (c.mono (by omega)));have q:=Q01 hv;clear d c hv E m;obtain ⟨O,I,M,G,L⟩:=i
 obtain ⟨⟨B,r,u,t,y⟩,F,R,J,N,H⟩:=j;go_wp2;refine bodyPost_ret (v:=pkt a b f s (.slice D l.length A)) (by simp [results,Tryz.results106,go_sem,B,r,u,t,y]) rfl ⟨_,rfl, ?_, ?_⟩
 ·refine Q04 (base:=w.heap.size+2) ?_ (by omega)
  repeat (refine ownsRow_setCell_below ?_ (by simp <;> omega) _)
  exact q.out
 ·repeat (refine Below.setCell ?_ (by simp <;> omega) _)
  exact C.out
structure Cm where
 a:Int
 b:Int
 f:Int
 s:Int
 l:List Int
 g:List (Int × Int)
 pl:Int
 st:Int
abbrev InG:=InL Q6P 50
def RdCm (C:Nat) (w:World) (v:Value) (m:Cm):Prop:=∃vl vg,v=crr m.a m.b m.f m.s vl vg m.pl m.st∧RdV Qis C w vl m.l∧RdV Q6P C w vg m.g
def InCm (lo hi:Nat) (w:World) (v:Value) (m:Cm):Prop:=∃vl vg,v=crr m.a m.b m.f m.s vl vg m.pl m.st∧InB lo hi w vl m.l∧InG lo hi w vg m.g
theorem RdCm.le {C D:Nat} {w:World} {v:Value} {m:Cm} (h:RdCm C w v m) (hc:C≤D):RdCm D w v m:=by
 obtain ⟨vl,vg,e,h1,h2⟩:=h;exact ⟨vl,vg,e,h1.le hc,h2.le hc⟩
theorem InCm.rd {lo hi:Nat} {w:World} {v:Value} {m:Cm} (h:InCm lo hi w v m):RdCm hi w v m:=by
 obtain ⟨vl,vg,e,h1,h2⟩:=h;exact ⟨vl,vg,e,h1.rd,h2.rd⟩
theorem InCm.step {a b lo hi:Nat} {w d:World} {v:Value} {m:Cm} (h:InCm a b w v m) (s:Stp lo hi w d) (c:hi≤a∨b≤lo):InCm a b d v m:=by
 obtain ⟨g,f,e,i,h2⟩:=h;exact ⟨g,f,e,i.step s c,h2.step s c⟩
theorem InCm.mono {lo hi a b:Nat} {w:World} {v:Value} {m:Cm} (h:InCm lo hi w v m) (c:a≤lo) (h2:hi≤b):InCm a b w v m:=by
 obtain ⟨i,g,e,d,f⟩:=h;exact ⟨i,g,e,d.mono c h2,f.mono c h2⟩
def QiK (n:Int):Bool:=decide (0≤n) && decide (n≤100000)
def cm0:Cm:=⟨0,0,0,0,[],[],0,0⟩
def Qdn (m:Bm) (now a b f s:Int) (n:Nat):Bool:=(Q2h m && (QiK now && Q0B a b f s n)) && decide (0 < (Q4d m.p.key m.p.ring m.t a b f).length)
def Q4F (m:Bm) (now a b f s:Int) (l:List Int):Cm:=if Qdn m now a b f s l.length=true then ⟨a,b,f,s,l,Q4d m.p.key m.p.ring m.t a b f,0,now⟩ else cm0
abbrev Qct (W:World) (R:Nat) (x0 x1 x2 x3 x4 x5 x6 x7:Value):World:=((((((((W.setCell ⟨R,0,none⟩ x0).setCell ⟨R,1,none⟩ x1).setCell ⟨R,2,none⟩ x2).setCell ⟨R,3,none⟩ x3).setCell ⟨R,4,none⟩ x4).setCell ⟨R,5,none⟩ x5).setCell ⟨R,6,none⟩ x6).setCell ⟨R,7,none⟩ x7)
theorem Q6R (W:World) (R:Nat) (a f h i b g d c:Value):Stp R (R+1) W (Qct W R a f h i b g d c):=(((((((Q0x W R 0 a).trans (Q0x _ R 1 f)).trans (Q0x _ R 2 h)).trans (Q0x _ R 3 i)).trans (Q0x _ R 4 b)).trans (Q0x _ R 5 g)).trans (Q0x _ R 6 d)).trans (Q0x _ R 7 c)
theorem Q5D (W:World) (R:Nat) (x0 x1 x2 x3 x4 x5 x6 x7:Value):(Qct W R x0 x1 x2 x3 x4 x5 x6 x7).heap.size=W.heap.size:=by simp [World.setCell]
theorem Q2i {C:Nat} {w W:World} {R:Nat} (h:Below C w W) (a:C≤R) (b i k c d j g f:Value):Below C w (Qct W R b i k c d j g f):=((((((((h.setCell (p:=⟨R,0,none⟩) a _).setCell (p:=⟨R,1,none⟩) a _).setCell (p:=⟨R,2,none⟩) a _).setCell (p:=⟨R,3,none⟩) a _).setCell (p:=⟨R,4,none⟩) a _).setCell (p:=⟨R,5,none⟩) a _).setCell (p:=⟨R,6,none⟩) a _).setCell (p:=⟨R,7,none⟩) a _)
theorem QcC (lo hi:Nat) (w:World):InCm lo hi w (crr 0 0 0 0 (.slice none 0 0) (.slice none 0 0) 0 0) cm0:=⟨_,_,rfl,⟨World.ownsRow_nil _ _ _ _,fun b e=> by cases e⟩,⟨World.ownsRow_nil _ _ _ _,fun b e=> by cases e⟩⟩
theorem QeK {m:Bm} {a b f s:Int} {n:Nat} (h:Q2h m=true) (j:Q0B a b f s n=true):(Q4d m.p.key m.p.ring m.t a b f).length≤100:=by
 have d:=Q5F h;have i:=Ring.of d;obtain ⟨c,k,g⟩:=Q7r (Q1B d).1 (Q7H j);unfold Q4d;rw [k];have q:=i.six g;have h2:=i.two 0 i.pos c g;rw [show ((c:Int)).toNat=c from rfl];have l:=Q3F (Q0Z m.t a b).2 (Q6j m.t a b).v (Q3l m.p.ring c) (Q3l m.p.ring c).length;unfold Q7I
 split
 ·have r:=Q6h (Q1M (Q0Z m.t a b).2 (Q6j m.t a b).v (Q3l m.p.ring c) (Q3l m.p.ring c).length) ((m.p.ring.getD 0 []).getD c []) ((m.p.ring.getD 0 []).getD c []).length
  omega
 ·omega
theorem QfK (g nt xc:Nat) (kq:Int) (yo:Option Addr) (yn yc:Nat) (sq kp:Int) (uo:Option Addr) (un uc:Nat) (vo:Option Addr) (vn vc:Nat) (now a b f s:Int) (po:Option Addr) (pn pc:Nat) (l:List Int) (F:List (Int × Int)) (db:Bool) (mr:Cm) (w:World) (af:decide (0 < F.length)=db) (ae:mr=if db=true then ⟨a,b,f,s,l,F,0,now⟩ else cm0) (J:pn=l.length) (hR:Rd w po l) (E:po=none→pc=0) (al:l.length≤1048576) (am:F.length≤100)
  (ah:∀W:World,Below w.heap.size w W→Calls Tryz.prog 39 #[Qce (.slice (some ⟨g,0,none⟩) nt xc) kq (.slice yo yn yc) sq kp (.slice uo un uc) (.slice vo vn vc),pkt a b f s (.slice po pn pc)] W fun e w'=> ∃v,e=.returned v∧ownL Q6P 50 w' W.heap.size v F∧Below W.heap.size W w'):
  Calls Tryz.prog 57 #[Qce (.slice (some ⟨g,0,none⟩) nt xc) kq (.slice yo yn yc) sq kp (.slice uo un uc) (.slice vo vn vc),.int .i64 now,pkt a b f s (.slice po pn pc)] w fun e w'=> ∃(xo:Option Addr) (xn xk:Nat) (ai:Option Addr) (aa yk:Nat) (k1 k2 k3 k4 k5:Int),e=.returned (.tuple #[crr k1 k2 k3 k4 (.slice xo xn xk) (.slice ai aa yk) 0 k5,.bool db])∧InCm w.heap.size w'.heap.size w' (crr k1 k2 k3 k4 (.slice xo xn xk) (.slice ai aa yk) 0 k5) mr∧Below w.heap.size w w':=by
 have ac:=Q01 ah;have I:=Q01 (fun W (d:Below w.heap.size w W)=> Q7j a b f s po pc l W (hR.kept d) E al);rw [←J] at I;have aq:=Q01 J;have ag:=Q01 af;have ad:=Q01 ae;clear ah hR E J af ae
 obtain ⟨W0,j⟩:∃W,(((w.alloc (.cells #[.slice (some ⟨g,0,none⟩) nt xc,.int .i64 kq,.slice yo yn yc,.int .i64 sq,.int .i64 kp,.slice uo un uc,.slice vo vn vc] 93)).alloc (.cells #[.int .i64 a,.int .i64 b,.int .i64 f,.int .i64 s,.slice po pn pc] 38)).alloc (.cells #[.int .i64 0,.int .i64 0,.int .i64 0,.int .i64 0,.slice none 0 0,.slice none 0 0,.int .i64 0,.int .i64 0] 58))=W:=⟨_,rfl⟩;have m:=alb0v0v3 j;have n:=Q01 m;clear m;have i:=alz0v0v3 j;obtain ⟨x0,x1,x2,x3,x4,x5,x6⟩:=alc7v0v3 j;have k:=alz0v1v3 j;obtain ⟨p0,p1,p2,p3,p4⟩:=alc5v1v3 j;have h:=alz0v2v3 j
 obtain ⟨U,r1,O,Y,Z,N,X,r7⟩:=alc8v2v3 j;obtain ⟨A,t,B,z,p,u,q,r⟩:=alf8v2v3 j;have ar:w.heap.size+1+1 < W0.heap.size:=h;go_enter Tryz.func57,Tryz.ntmps57;go_wp2_with fail;refine (ac.out W0 n.out).mono ?_;rintro e v1 ⟨rv,rfl,D,d⟩;have M:Hid (ownL Q6P 50 v1 W0.heap.size rv F):=D;have an:=d.size;clear D;replace x0:=bC d x0 i;replace x1:=bC d x1 i;replace x2:=bC d x2 i;replace x3:=bC d x3 i;replace x4:=bC d x4 i;replace x5:=bC d x5 i;replace x6:=bC d x6 i;replace i:=Kbq i d.size;replace p0:=bC d p0 k;replace p1:=bC d p1 k
 replace p2:=bC d p2 k;replace p3:=bC d p3 k;replace p4:=bC d p4 k;replace k:=Kbq k d.size;replace U:=bC d U h;replace r1:=bC d r1 h;replace O:=bC d O h;replace Y:=bC d Y h;replace Z:=bC d Z h;replace N:=bC d N h;replace X:=bC d X h;replace r7:=bC d r7 h;replace A:=bF d A h;replace t:=bF d t h;replace B:=bF d B h;replace z:=bF d z h;replace p:=bF d p h;replace u:=bF d u h;replace q:=bF d q h;replace r:=bF d r h;replace h:=Kbq h d.size;replace n:=Q01 (n.out.trans (d.mono n.out.size));clear d;clear ac
 obtain ⟨V,rc,e6,_⟩:=ownL.open (L:=Q6P) M.out;subst e6;obtain ⟨C,H⟩:∃x,F.length=x:=⟨_,rfl⟩;rw [H] at M am ⊢;have ab:=Q01 H;clear H
 by_cases h0:C=0
 ·subst h0
  have e0:db=false:=by rw [←ag.out,ab.out];rfl
  subst e0;go_wp2;refine bodyPost_ret (v:=.tuple #[crr 0 0 0 0 (.slice none 0 0) (.slice none 0 0) 0 0,.bool false]) (by simp [results,Tryz.results57,go_sem,U,r1,O,Y,Z,N,X,r7]) rfl ⟨none,0,0,none,0,0,0,0,0,0,0,rfl, ?_,Q2i n.out (by omega) _ _ _ _ _ _ _ _⟩;rw [ad.out];exact QcC _ _ _
 ·have ap:¬((C:Int)=0):=by omega
  have e0:db=true:=by rw [←ag.out,ab.out];exact decide_eq_true (by omega)
  subst e0;clear h0;go_wp2_with fail;refine (I.out v1 n.out).mono ?_;rintro e v2 ⟨bv,rfl,G,d⟩;have y:Hid (ownB v2 v1.heap.size bv l):=G;have ao:=d.size;clear G;replace x0:=bC d x0 i;replace x1:=bC d x1 i;replace x2:=bC d x2 i;replace x3:=bC d x3 i;replace x4:=bC d x4 i;replace x5:=bC d x5 i;replace x6:=bC d x6 i;replace i:=Kbq i d.size;replace p0:=bC d p0 k;replace p1:=bC d p1 k;replace p2:=bC d p2 k;replace p3:=bC d p3 k;replace p4:=bC d p4 k;replace k:=Kbq k d.size;replace U:=bC d U h;replace r1:=bC d r1 h;replace O:=bC d O h
  replace Y:=bC d Y h;replace Z:=bC d Z h;replace N:=bC d N h;replace X:=bC d X h;replace r7:=bC d r7 h;replace A:=bF d A h;replace t:=bF d t h;replace B:=bF d B h;replace z:=bF d z h;replace p:=bF d p h;replace u:=bF d u h;replace q:=bF d q h;replace r:=bF d r h;replace h:=Kbq h d.size;replace M:=Q01 (Q03 M.out d);replace n:=Q01 (n.out.trans (d.mono n.out.size));clear d;clear I
  obtain ⟨R,P,e7⟩:∃o c,bv=.slice o l.length c:=by obtain ⟨o,c,e,_⟩:=ownL.open (L:=Qis) (Q9K.1 y.out);exact ⟨o,c,e⟩
  subst e7;obtain ⟨T,aj⟩:∃x,l.length=x:=⟨_,rfl⟩;rw [aj] at y ⊢;clear aj
  have ak:Hid (InCm w.heap.size (Qct v2 (w.heap.size+1+1) (.int .i64 a) (.int .i64 b) (.int .i64 f) (.int .i64 s) (.slice R T P) (.slice V C rc) (.int .i64 0) (.int .i64 now)).heap.size (Qct v2 (w.heap.size+1+1) (.int .i64 a) (.int .i64 b) (.int .i64 f) (.int .i64 s) (.slice R T P) (.slice V C rc) (.int .i64 0) (.int .i64 now)) (crr a b f s (.slice R T P) (.slice V C rc) 0 now) ⟨a,b,f,s,l,F,0,now⟩):=by
   have s9:=Q6R v2 (w.heap.size+1+1) (.int .i64 a) (.int .i64 b) (.int .i64 f) (.int .i64 s) (.slice R T P) (.slice V C rc) (.int .i64 0) (.int .i64 now);refine ⟨_,_,rfl,InRow.mono (InRow.step (InRow.of (Q9K.1 y.out)) s9 (.inl (by omega))) (by omega) (by rw [Q5D];exact Kaq _),InRow.mono (InRow.step (InRow.of (show ownL Q6P 50 v2 W0.heap.size _ F from M.out)) s9 (.inl (by omega))) (by omega) (by rw [Q5D];exact Kaq _)⟩
  clear M y;go_wp2;refine bodyPost_ret (v:=.tuple #[crr a b f s (.slice R T P) (.slice V C rc) 0 now,.bool true]) (by simp [results,Tryz.results57,go_sem,U,r1,O,Y,Z,N,X,r7]) rfl ⟨R,T,P,V,C,rc,a,b,f,s,now,rfl,by rw [ad.out];exact ak.out,Q2i n.out (by omega) _ _ _ _ _ _ _ _⟩
theorem QaC (I:Int) (o:Option Addr) (nj c:Nat) (J H:Int) (ob:Option Addr) (np cb:Nat) (oR:Option Addr) (nr cR:Nat) (ot:Option Addr) (nt ct:Nat) (L:List Cd) (lb:List Bk) (E:List (List (List Int))) (lt:List Sl) (now a b f s:Int) (po:Option Addr) (pn pc:Nat) (l:List Int) (w:World)
  (aF:nj=L.length) (aG:nt=lt.length) (h1:RdC w.heap.size w o L) (aV:o=none→c=0) (h2:Q86 w.heap.size w (plv H (.slice ob np cb) (.slice oR nr cR)) ⟨H,lb,E⟩) (h4:RdS w.heap.size w ot lt) (hf:Q6L ⟨⟨I,L,J⟩,⟨H,lb,E⟩,lt⟩) (ar:pn=l.length) (aS:Rd w po l) (aU:po=none→pc=0) (aY:l.length≤1048576):
  Calls Tryz.prog 18 #[Q13 I (.slice o nj c) J H (.slice ob np cb) (.slice oR nr cR) (.slice ot nt ct),.int .i64 now,pkt a b f s (.slice po pn pc)] w fun e w'=> ∃v,e=.returned (.tuple #[v,.bool (Qdn ⟨⟨I,L,J⟩,⟨H,lb,E⟩,lt⟩ now a b f s l.length)])∧InCm w.heap.size w'.heap.size w' v (Q4F ⟨⟨I,L,J⟩,⟨H,lb,E⟩,lt⟩ now a b f s l)∧Below w.heap.size w w':=by
 have au:=Q01 (fun W (i:Below w.heap.size w W)=> Q2P I o nj c J H ob np cb oR nr cR ot nt ct L lb E lt W aF aG ((h1.kept i (Kaq _)).le i.size) aV ((h2.kept i (Kaq _)).le i.size) ((h4.kept i (Kaq _)).le i.size) hf);have f7:lt.length≤1048576:=hf.2.2
 have aH:pn≤maxLen:=by unfold maxLen;omega
 have ak:=Q01 (fun h=> Q40 (m:=⟨⟨I,L,J⟩,⟨H,lb,E⟩,lt⟩) h);have ap:=Q01 (fun h=> Q5F (m:=⟨⟨I,L,J⟩,⟨H,lb,E⟩,lt⟩) h);have an:=Q01 (fun h=> Q2x (m:=⟨⟨I,L,J⟩,⟨H,lb,E⟩,lt⟩) h);have ao:=Q01 (fun h=> QgL (m:=⟨⟨I,L,J⟩,⟨H,lb,E⟩,lt⟩) h a b);have aq:=Q01 (fun h=> Q5q (m:=⟨⟨I,L,J⟩,⟨H,lb,E⟩,lt⟩) h);have af:=Q01 (fun h h2=> QeK (m:=⟨⟨I,L,J⟩,⟨H,lb,E⟩,lt⟩) (a:=a) (b:=b) (f:=f) (s:=s) (n:=pn) h h2);have ay:=Q01 (fun h=> Q7H (a:=a) (b:=b) (f:=f) (s:=s) (n:=pn) h)
 have G:=Q01 (show Qdn ⟨⟨I,L,J⟩,⟨H,lb,E⟩,lt⟩ now a b f s l.length=((Q2h ⟨⟨I,L,J⟩,⟨H,lb,E⟩,lt⟩ && (QiK now && Q0B a b f s l.length)) && decide (0 < (Q4d H E lt a b f).length)) from rfl);have HM:=Q01 (show Q4F ⟨⟨I,L,J⟩,⟨H,lb,E⟩,lt⟩ now a b f s l=if Qdn ⟨⟨I,L,J⟩,⟨H,lb,E⟩,lt⟩ now a b f s l.length=true then ⟨a,b,f,s,l,Q4d H E lt a b f,0,now⟩ else cm0 from rfl);dsimp only at ap an ao ak aq af;rw [←ar] at G HM;rw [←ar];have am:=Q01 (And.intro aS (And.intro aU ar));clear h1 h2 h4 aF aG hf aS aU ar;obtain ⟨bb,aD⟩:∃x,Q2h ⟨⟨I,L,J⟩,⟨H,lb,E⟩,lt⟩=x:=⟨_,rfl⟩
 obtain ⟨mr,aw⟩:∃r,Q4F ⟨⟨I,L,J⟩,⟨H,lb,E⟩,lt⟩ now a b f s l=r:=⟨_,rfl⟩;obtain ⟨sb,al⟩:∃r,Qdn ⟨⟨I,L,J⟩,⟨H,lb,E⟩,lt⟩ now a b f s pn=r:=⟨_,rfl⟩;rw [aw,al];rw [aD] at au ak ap an ao aq af G;rw [aw,al] at HM;rw [al] at G;clear aD aw al;obtain ⟨nb,az⟩:∃x,QiK now=x:=⟨_,rfl⟩;obtain ⟨pb,aA⟩:∃x,Q0B a b f s pn=x:=⟨_,rfl⟩;have aB:=Q01 aA;have aT:=Q01 az;rw [aA] at ay af G;rw [az] at G;clear aA az
 obtain ⟨W0,O⟩:∃W,(((w.alloc (.cells #[.int .i64 I,.slice o nj c,.int .i64 J,.int .i64 H,.slice ob np cb,.slice oR nr cR,.slice ot nt ct] 34)).alloc (.cells #[.int .i64 a,.int .i64 b,.int .i64 f,.int .i64 s,.slice po pn pc] 38)).alloc (.cells #[.int .i64 0,.int .i64 0,.int .i64 0,.int .i64 0,.slice none 0 0,.slice none 0 0,.int .i64 0,.int .i64 0] 58))=W:=⟨_,rfl⟩;have aa:=alb0v0v3 O;have F:=Q01 aa;clear aa;have k:=alz0v0v3 O;obtain ⟨z0,z1,z2,z3,z4,z5,z6⟩:=alc7v0v3 O;have p:=alz0v1v3 O;obtain ⟨p0,p1,p2,p3,p4⟩:=alc5v1v3 O;have j:=alz0v2v3 O
 obtain ⟨U,r1,T,X,Y,R,V,Z⟩:=alc8v2v3 O;obtain ⟨C,z,D,B,t,A,u,y⟩:=alf8v2v3 O;have a4:w.heap.size+1+1 < W0.heap.size:=j;go_enter Tryz.func18,Tryz.ntmps18;go_wp2_with fail;refine (au.out W0 F.out).mono ?_;rintro e v1 ⟨xo,xn,xc,kq,yo,yn,yc,sq,kr,uo,un,uc,vo,vn,vc,rfl,aI,i⟩;have ax:=Q01 aI;have aZ:=i.size;clear aI au;replace z0:=bC i z0 k;replace z1:=bC i z1 k;replace z2:=bC i z2 k;replace z3:=bC i z3 k;replace z4:=bC i z4 k;replace z5:=bC i z5 k;replace z6:=bC i z6 k;replace k:=Kbq k i.size;replace p0:=bC i p0 p;replace p1:=bC i p1 p
 replace p2:=bC i p2 p;replace p3:=bC i p3 p;replace p4:=bC i p4 p;replace p:=Kbq p i.size;replace U:=bC i U j;replace r1:=bC i r1 j;replace T:=bC i T j;replace X:=bC i X j;replace Y:=bC i Y j;replace R:=bC i R j;replace V:=bC i V j;replace Z:=bC i Z j;replace C:=bF i C j;replace z:=bF i z j;replace D:=bF i D j;replace B:=bF i B j;replace t:=bF i t j;replace A:=bF i A j;replace u:=bF i u j;replace y:=bF i y j;replace j:=Kbq j i.size;replace F:=Q01 (F.out.trans (i.mono F.out.size));clear i
 cases bb with
 |false=>
  obtain ⟨W2,N⟩:∃W,(v1.alloc (.cells #[.slice xo xn xc,.int .i64 kq,.slice yo yn yc,.int .i64 sq,.int .i64 kr,.slice uo un uc,.slice vo vn vc] 93))=W:=⟨_,rfl⟩;have d:=alb0v0v1 N;replace z0:=bC d z0 k;replace z1:=bC d z1 k;replace z2:=bC d z2 k;replace z3:=bC d z3 k;replace z4:=bC d z4 k;replace z5:=bC d z5 k;replace z6:=bC d z6 k;replace k:=Kbq k d.size;replace p0:=bC d p0 p;replace p1:=bC d p1 p;replace p2:=bC d p2 p;replace p3:=bC d p3 p;replace p4:=bC d p4 p;replace p:=Kbq p d.size;replace U:=bC d U j
  replace r1:=bC d r1 j;replace T:=bC d T j;replace X:=bC d X j;replace Y:=bC d Y j;replace R:=bC d R j;replace V:=bC d V j;replace Z:=bC d Z j;replace C:=bF d C j;replace z:=bF d z j;replace D:=bF d D j;replace B:=bF d B j;replace t:=bF d t j;replace A:=bF d A j;replace u:=bF d u j;replace y:=bF d y j;replace j:=Kbq j d.size;replace F:=Q01 (F.out.trans (d.mono F.out.size));clear d;have q:=alz0v0v1 N;obtain ⟨x0,x1,x2,x3,x4,x5,x6⟩:=alc7v0v1 N;clear ax
  have e0:sb=false:=by rw [G.out];simp
  subst e0;go_wp2;refine bodyPost_ret (v:=.tuple #[crr 0 0 0 0 (.slice none 0 0) (.slice none 0 0) 0 0,.bool false]) (by simp [results,Tryz.results18,go_sem,U,r1,T,X,Y,R,V,Z]) rfl ⟨_,rfl, ?_,Q2i F.out (by omega) _ _ _ _ _ _ _ _⟩;rw [HM.out];exact QcC _ _ _
 |true=>
  have hn:=ak.out rfl;have aC:=ap.out rfl;have aP:=an.out rfl;have aN:=ao.out rfl;have aL:=aq.out rfl;obtain ⟨g,a2,b2,k1,k2,k3,k4,e1,e2,e3,rfl,rfl,i1,i2,i3⟩:=Q84 (ax.out rfl) hn;rw [←aP] at i1 e3;dsimp only at i1 e3;subst e3;have HO:=Q01 i2;have P:=Q01 i1
  have a1:a2≤v1.heap.size:=by omega
  have av:=Q01 (And.intro aN aL);clear i1 i2 i3 ax e1 e2 aP an aN aL ao aq;obtain ⟨W2,N⟩:∃W,(v1.alloc (.cells #[.slice (some ⟨g,0,none⟩) lt.length xc,.int .i64 kq,.slice yo yn yc,.int .i64 sq,.int .i64 kr,.slice uo un uc,.slice vo vn vc] 93))=W:=⟨_,rfl⟩;have d:=alb0v0v1 N;replace z0:=bC d z0 k;replace z1:=bC d z1 k;replace z2:=bC d z2 k;replace z3:=bC d z3 k;replace z4:=bC d z4 k;replace z5:=bC d z5 k;replace z6:=bC d z6 k;replace k:=Kbq k d.size;replace p0:=bC d p0 p;replace p1:=bC d p1 p;replace p2:=bC d p2 p
  replace p3:=bC d p3 p;replace p4:=bC d p4 p;replace p:=Kbq p d.size;replace U:=bC d U j;replace r1:=bC d r1 j;replace T:=bC d T j;replace X:=bC d X j;replace Y:=bC d Y j;replace R:=bC d R j;replace V:=bC d V j;replace Z:=bC d Z j;replace C:=bF d C j;replace z:=bF d z j;replace D:=bF d D j;replace B:=bF d B j;replace t:=bF d t j;replace A:=bF d A j;replace u:=bF d u j;replace y:=bF d y j;replace j:=Kbq j d.size;replace HO:=Q01 (Q03 HO.out d)
  replace F:=Q01 (F.out.trans (d.mono F.out.size));clear d;have q:=alz0v0v1 N;obtain ⟨x0,x1,x2,x3,x4,x5,x6⟩:=alc7v0v1 N;replace P:=Q01 (P.out.step (Stp.of (lo:=0) (hi:=0) (show Below v1.heap.size v1 W2 by rw [←N];exact (Below.refl _ _).alloc (Kaq _) _)) (.inl (Kcq _)));have a0:v1.heap.size < W2.heap.size:=q
  cases nb with
  |false=>
   go_wp2_with fail;have M:=Q31 now W2
   change Calls _ _ _ _ (fun e w'=> e=.returned (.bool (QiK now))∧_) at M
   rw [aT.out] at M;refine M.mono ?_;rintro e _ ⟨rfl,rfl⟩;clear M;clear HO P
   have e0:sb=false:=by rw [G.out];simp
   subst e0;go_wp2;refine bodyPost_ret (v:=.tuple #[crr 0 0 0 0 (.slice none 0 0) (.slice none 0 0) 0 0,.bool false]) (by simp [results,Tryz.results18,go_sem,U,r1,T,X,Y,R,V,Z]) rfl ⟨_,rfl, ?_,Q2i F.out (by omega) _ _ _ _ _ _ _ _⟩;rw [HM.out];exact QcC _ _ _
  |true=>
   go_wp2_with fail;have M:=Q31 now W2
   change Calls _ _ _ _ (fun e w'=> e=.returned (.bool (QiK now))∧_) at M
   rw [aT.out] at M;refine M.mono ?_;rintro e _ ⟨rfl,rfl⟩;clear M;have ai:=Q1A a b f s po pn pc W2 aH;rw [aB.out] at ai
   cases pb with
   |false=>
    go_wp2_with fail;refine (ai).mono ?_;rintro e v2 ⟨rfl,i⟩;replace z0:=bC i z0 k;replace z1:=bC i z1 k;replace z2:=bC i z2 k;replace z3:=bC i z3 k;replace z4:=bC i z4 k;replace z5:=bC i z5 k;replace z6:=bC i z6 k;replace k:=Kbq k i.size;replace p0:=bC i p0 p;replace p1:=bC i p1 p;replace p2:=bC i p2 p;replace p3:=bC i p3 p;replace p4:=bC i p4 p;replace p:=Kbq p i.size;replace U:=bC i U j;replace r1:=bC i r1 j;replace T:=bC i T j;replace X:=bC i X j;replace Y:=bC i Y j;replace R:=bC i R j;replace V:=bC i V j;replace Z:=bC i Z j
    replace C:=bF i C j;replace z:=bF i z j;replace D:=bF i D j;replace B:=bF i B j;replace t:=bF i t j;replace A:=bF i A j;replace u:=bF i u j;replace y:=bF i y j;replace j:=Kbq j i.size;replace x0:=bC i x0 q;replace x1:=bC i x1 q;replace x2:=bC i x2 q;replace x3:=bC i x3 q;replace x4:=bC i x4 q;replace x5:=bC i x5 q;replace x6:=bC i x6 q;replace q:=Kbq q i.size;replace HO:=Q01 (Q03 HO.out i);replace F:=Q01 (F.out.trans (i.mono F.out.size));clear i;clear ai HO P
    have e0:sb=false:=by rw [G.out];simp
    subst e0;go_wp2;refine bodyPost_ret (v:=.tuple #[crr 0 0 0 0 (.slice none 0 0) (.slice none 0 0) 0 0,.bool false]) (by simp [results,Tryz.results18,go_sem,U,r1,T,X,Y,R,V,Z]) rfl ⟨_,rfl, ?_,Q2i F.out (by omega) _ _ _ _ _ _ _ _⟩;rw [HM.out];exact QcC _ _ _
   |true=>
    go_wp2_with fail;refine (ai).mono ?_;rintro e v2 ⟨rfl,i⟩;replace P:=Q01 (P.out.step (Stp.of (lo:=0) (hi:=0) i) (.inl (Kcq _)));have a5:=i.size;replace z0:=bC i z0 k;replace z1:=bC i z1 k;replace z2:=bC i z2 k;replace z3:=bC i z3 k;replace z4:=bC i z4 k;replace z5:=bC i z5 k;replace z6:=bC i z6 k;replace k:=Kbq k i.size;replace p0:=bC i p0 p;replace p1:=bC i p1 p;replace p2:=bC i p2 p;replace p3:=bC i p3 p;replace p4:=bC i p4 p;replace p:=Kbq p i.size;replace U:=bC i U j;replace r1:=bC i r1 j;replace T:=bC i T j;replace X:=bC i X j
    replace Y:=bC i Y j;replace R:=bC i R j;replace V:=bC i V j;replace Z:=bC i Z j;replace C:=bF i C j;replace z:=bF i z j;replace D:=bF i D j;replace B:=bF i B j;replace t:=bF i t j;replace A:=bF i A j;replace u:=bF i u j;replace y:=bF i y j;replace j:=Kbq j i.size;replace x0:=bC i x0 q;replace x1:=bC i x1 q;replace x2:=bC i x2 q;replace x3:=bC i x3 q;replace x4:=bC i x4 q;replace x5:=bC i x5 q;replace x6:=bC i x6 q;replace q:=Kbq q i.size;replace HO:=Q01 (Q03 HO.out i)
    replace F:=Q01 (F.out.trans (i.mono F.out.size));clear i;clear ai;have aE:=af.out (by first|rfl|trivial) (by first|rfl|trivial);have aO:=ay.out (by first|rfl|trivial);have HG:=Q01 (QfK g lt.length xc kq yo yn yc sq kr uo un uc vo vn vc now a b f s po pn pc l (Q4d kr E lt a b f) _ _ v2 rfl rfl am.out.2.2 (am.out.1.kept F.out) am.out.2.1 aY aE (fun W i=> Qf8 g lt.length xc a2 kq yo yn yc sq kr uo un uc vo vn vc lb E lt a b f s po pn pc W rfl hn f7 aH aB.out aO av.out.1 ((P.out.rd.le (by omega)).kept i (Kaq _)|>.le i.size) aC av.out.2 (Q03 HO.out i)))
    clear P aB ay av aC ak ap af aE aO HO am;obtain ⟨db,aJ⟩:∃x,decide (0 < (Q4d kr E lt a b f).length)=x:=⟨_,rfl⟩;rw [aJ] at HG G;clear aJ;obtain ⟨aK,ab⟩:∃x:Cm,(if db=true then (⟨a,b,f,s,l,Q4d kr E lt a b f,0,now⟩:Cm) else cm0)=x:=⟨_,rfl⟩;rw [ab] at HG;have aR:=Q01 ab;clear ab
    have e0:sb=db:=by rw [G.out];cases db <;> rfl
    subst e0
    have aW:Hid (mr=aK):=by unfold Hid;rw [HM.out,←aR.out]
    clear HM aR G;go_wp2_with fail;refine (HG.out).mono ?_;rintro e v3 ⟨ad,ag,aj,ah,ac,ae,q1,q2,q3,q4,q5,rfl,aQ,i⟩;have aM:=Q01 aQ;have a3:=i.size;clear aQ;replace z0:=bC i z0 k;replace z1:=bC i z1 k;replace z2:=bC i z2 k;replace z3:=bC i z3 k;replace z4:=bC i z4 k;replace z5:=bC i z5 k;replace z6:=bC i z6 k;replace k:=Kbq k i.size;replace p0:=bC i p0 p;replace p1:=bC i p1 p;replace p2:=bC i p2 p;replace p3:=bC i p3 p;replace p4:=bC i p4 p;replace p:=Kbq p i.size;replace U:=bC i U j;replace r1:=bC i r1 j;replace T:=bC i T j
    replace X:=bC i X j;replace Y:=bC i Y j;replace R:=bC i R j;replace V:=bC i V j;replace Z:=bC i Z j;replace C:=bF i C j;replace z:=bF i z j;replace D:=bF i D j;replace B:=bF i B j;replace t:=bF i t j;replace A:=bF i A j;replace u:=bF i u j;replace y:=bF i y j;replace j:=Kbq j i.size;replace x0:=bC i x0 q;replace x1:=bC i x1 q;replace x2:=bC i x2 q;replace x3:=bC i x3 q;replace x4:=bC i x4 q;replace x5:=bC i x5 q;replace x6:=bC i x6 q;replace q:=Kbq q i.size
    replace F:=Q01 (F.out.trans (i.mono F.out.size));clear i;clear HG
    have aX:Hid (InCm w.heap.size (Qct v3 (w.heap.size+1+1) (.int .i64 q1) (.int .i64 q2) (.int .i64 q3) (.int .i64 q4) (.slice ad ag aj) (.slice ah ac ae) (.int .i64 0) (.int .i64 q5)).heap.size (Qct v3 (w.heap.size+1+1) (.int .i64 q1) (.int .i64 q2) (.int .i64 q3) (.int .i64 q4) (.slice ad ag aj) (.slice ah ac ae) (.int .i64 0) (.int .i64 q5)) (crr q1 q2 q3 q4 (.slice ad ag aj) (.slice ah ac ae) 0 q5) aK):=(aM.out.step (Q6R v3 (w.heap.size+1+1) (.int .i64 q1) (.int .i64 q2) (.int .i64 q3) (.int .i64 q4) (.slice ad ag aj) (.slice ah ac ae) (.int .i64 0) (.int .i64 q5)) (.inl (by omega))).mono (by omega) (by rw [Q5D];exact Kaq _)
    clear aM;go_wp2;refine bodyPost_ret (v:=.tuple #[crr q1 q2 q3 q4 (.slice ad ag aj) (.slice ah ac ae) 0 q5,.bool sb]) (by simp [results,Tryz.results18,go_sem,U,r1,T,X,Y,R,V,Z]) rfl ⟨_,rfl,by rw [aW.out];exact aX.out,Q2i F.out (by omega) _ _ _ _ _ _ _ _⟩
theorem InCm.opn {lo hi:Nat} {w:World} {v:Value} {m:Cm} (h:InCm lo hi w v m):∃(o:Option Addr) (c:Nat) (i:Option Addr) (d:Nat),v=crr m.a m.b m.f m.s (.slice o m.l.length c) (.slice i m.g.length d) m.pl m.st:=by
 obtain ⟨p,n,e,⟨o,c,j,_⟩,⟨i,d,k,_⟩⟩:=h.rd;exact ⟨o,c,i,d,by rw [e,j,k]⟩
theorem Q1l {W:World} {B b j:Nat} {u:Value} (h:W.cell? ⟨b,j,none⟩=some u) (m:b < B) (a i k l c g f d:Value):(Qct W B a i k l c g f d).cell? ⟨b,j,none⟩=some u:=(Q6R W B a i k l c g f d).cellP h (.inl m)
theorem Qhj {w a:World} {c:Array Value} {T:TypeId} (b:Below (w.alloc (.cells c T)).heap.size (w.alloc (.cells c T)) a):a.heap[w.heap.size]? =some (.cells c T (0,0)):=
 (b.block w.heap.size (by simp)).trans (World.alloc_heap_new w (.cells c T))
theorem Qe0 {w a:World} {c:Array Value} {T:TypeId} (b:Below ((w.alloc (.cells c T)).drew).heap.size (w.alloc (.cells c T)).drew a):a.heap[w.heap.size]? =some (.cells c T (0,0)):=by
 have d:=b.block w.heap.size (by simp);have h2:(w.alloc (.cells c T)).drew.heap[w.heap.size]? =(w.alloc (.cells c T)).heap[w.heap.size]? :=rfl;exact d.trans (h2.trans (World.alloc_heap_new w (.cells c T)))
theorem QgC {W:World} {R:Nat} {s r q p n l k i:Value} {T:TypeId} (h:W.heap[R]? =some (.cells #[s,r,q,p,n,l,k,i] T (0,0))) (a b c d f g j m:Value):(Qct W R a b c d f g j m).heap[R]? =some (.cells #[a,b,c,d,f,g,j,m] T (0,0)):=by
 have u:(W.setCell ⟨R,0,none⟩ a).heap[R]? =some (.cells #[a,r,q,p,n,l,k,i] T (0,0)):=Q06 h 0 a;have t:((W.setCell ⟨R,0,none⟩ a).setCell ⟨R,1,none⟩ b).heap[R]? =some (.cells #[a,b,q,p,n,l,k,i] T (0,0)):=Q06 u 1 b;have h2:(((W.setCell ⟨R,0,none⟩ a).setCell ⟨R,1,none⟩ b).setCell ⟨R,2,none⟩ c).heap[R]? =some (.cells #[a,b,c,p,n,l,k,i] T (0,0)):=Q06 t 2 c;have w:((((W.setCell ⟨R,0,none⟩ a).setCell ⟨R,1,none⟩ b).setCell ⟨R,2,none⟩ c).setCell ⟨R,3,none⟩ d).heap[R]? =some (.cells #[a,b,c,d,n,l,k,i] T (0,0)):=Q06 h2 3 d
 have y:(((((W.setCell ⟨R,0,none⟩ a).setCell ⟨R,1,none⟩ b).setCell ⟨R,2,none⟩ c).setCell ⟨R,3,none⟩ d).setCell ⟨R,4,none⟩ f).heap[R]? =some (.cells #[a,b,c,d,f,l,k,i] T (0,0)):=Q06 w 4 f;have x:((((((W.setCell ⟨R,0,none⟩ a).setCell ⟨R,1,none⟩ b).setCell ⟨R,2,none⟩ c).setCell ⟨R,3,none⟩ d).setCell ⟨R,4,none⟩ f).setCell ⟨R,5,none⟩ g).heap[R]? =some (.cells #[a,b,c,d,f,g,k,i] T (0,0)):=Q06 y 5 g
 have v:(((((((W.setCell ⟨R,0,none⟩ a).setCell ⟨R,1,none⟩ b).setCell ⟨R,2,none⟩ c).setCell ⟨R,3,none⟩ d).setCell ⟨R,4,none⟩ f).setCell ⟨R,5,none⟩ g).setCell ⟨R,6,none⟩ j).heap[R]? =some (.cells #[a,b,c,d,f,g,j,i] T (0,0)):=Q06 x 6 j;have z:((((((((W.setCell ⟨R,0,none⟩ a).setCell ⟨R,1,none⟩ b).setCell ⟨R,2,none⟩ c).setCell ⟨R,3,none⟩ d).setCell ⟨R,4,none⟩ f).setCell ⟨R,5,none⟩ g).setCell ⟨R,6,none⟩ j).setCell ⟨R,7,none⟩ m).heap[R]? =some (.cells #[a,b,c,d,f,g,j,m] T (0,0)):=Q06 v 7 m;exact z
theorem QcB {W:World} {B:Nat} {a c d g b i f j:Value} {T:TypeId} (h:W.heap[B]? =some (.cells #[a,c,d,g,b,i,f,j] T (0,0))):W.cell? ⟨B,0,none⟩=some a∧W.cell? ⟨B,1,none⟩=some c∧W.cell? ⟨B,2,none⟩=some d∧W.cell? ⟨B,3,none⟩=some g∧W.cell? ⟨B,4,none⟩=some b∧W.cell? ⟨B,5,none⟩=some i∧W.cell? ⟨B,6,none⟩=some f∧W.cell? ⟨B,7,none⟩=some j∧W.frozen? ⟨B,0,none⟩=false∧W.frozen? ⟨B,1,none⟩=false∧W.frozen? ⟨B,2,none⟩=false∧W.frozen? ⟨B,3,none⟩=false∧W.frozen? ⟨B,4,none⟩=false∧W.frozen? ⟨B,5,none⟩=false∧W.frozen? ⟨B,6,none⟩=false∧W.frozen? ⟨B,7,none⟩=false:=
 ⟨Q00 h 0 _ rfl,Q00 h 1 _ rfl,Q00 h 2 _ rfl,Q00 h 3 _ rfl,Q00 h 4 _ rfl,Q00 h 5 _ rfl,Q00 h 6 _ rfl,Q00 h 7 _ rfl,Q02 h 0,Q02 h 1,Q02 h 2,Q02 h 3,Q02 h 4,Q02 h 5,Q02 h 6,Q02 h 7⟩
theorem Q3Z {W:World} {B:Nat} {a c d g b i f:Value} {T:TypeId} (h:W.heap[B]? =some (.cells #[a,c,d,g,b,i,f] T (0,0))):W.cell? ⟨B,0,none⟩=some a∧W.cell? ⟨B,1,none⟩=some c∧W.cell? ⟨B,2,none⟩=some d∧W.cell? ⟨B,3,none⟩=some g∧W.cell? ⟨B,4,none⟩=some b∧W.cell? ⟨B,5,none⟩=some i∧W.cell? ⟨B,6,none⟩=some f:=⟨Q00 h 0 _ rfl,Q00 h 1 _ rfl,Q00 h 2 _ rfl,Q00 h 3 _ rfl,Q00 h 4 _ rfl,Q00 h 5 _ rfl,Q00 h 6 _ rfl⟩
theorem QhW {W:World} {B:Nat} {a c d g b i f j:Value} {T:TypeId} (h:W.heap[B]? =some (.cells #[a,c,d,g,b,i,f,j] T (0,0))):W.cell? ⟨B,0,none⟩=some a∧W.cell? ⟨B,1,none⟩=some c∧W.cell? ⟨B,2,none⟩=some d∧W.cell? ⟨B,3,none⟩=some g∧W.cell? ⟨B,4,none⟩=some b∧W.cell? ⟨B,5,none⟩=some i∧W.cell? ⟨B,6,none⟩=some f∧W.cell? ⟨B,7,none⟩=some j:=⟨Q00 h 0 _ rfl,Q00 h 1 _ rfl,Q00 h 2 _ rfl,Q00 h 3 _ rfl,Q00 h 4 _ rfl,Q00 h 5 _ rfl,Q00 h 6 _ rfl,Q00 h 7 _ rfl⟩
theorem Qhp {h W:World} {B lo hi:Nat} {f:Value} {d:Cm} {o j:Option Addr} {c i:Nat} {v A C E w x D G:Value} (u:W.heap[B]? =some (.cells #[v,A,C,E,w,x,D,G] 58 (0,0))) (z:Below h.heap.size h W) (r:h.heap.size≤B) (n:InCm lo hi W (crr d.a d.b d.f d.s (.slice o d.l.length c) (.slice j d.g.length i) d.pl d.st) d) (F:h.heap.size≤lo) (h2:hi≤W.heap.size) (y:B < lo∨hi≤B):
  ∃B' lo hi p q m k,Value.pointer (some ⟨B,0,none⟩)=.pointer (some ⟨B',0,none⟩)∧f=f∧Hid ((Qct W B (.int .i64 d.a) (.int .i64 d.b) (.int .i64 d.f) (.int .i64 d.s) (.slice o d.l.length c) (.slice j d.g.length i) (.int .i64 d.pl) (.int .i64 d.st)).heap[B']? =some (.cells #[.int .i64 d.a,.int .i64 d.b,.int .i64 d.f,.int .i64 d.s,.slice p d.l.length q,.slice m d.g.length k,.int .i64 d.pl,.int .i64 d.st] 58 (0,0)))∧Hid (Below h.heap.size h (Qct W B (.int .i64 d.a) (.int .i64 d.b) (.int .i64 d.f) (.int .i64 d.s) (.slice o d.l.length c) (.slice j d.g.length i) (.int .i64 d.pl) (.int .i64 d.st)))∧h.heap.size≤B'∧B' < (Qct W B (.int .i64 d.a) (.int .i64 d.b) (.int .i64 d.f) (.int .i64 d.s) (.slice o d.l.length c) (.slice j d.g.length i) (.int .i64 d.pl) (.int .i64 d.st)).heap.size∧Hid (InCm lo hi (Qct W B (.int .i64 d.a) (.int .i64 d.b) (.int .i64 d.f) (.int .i64 d.s) (.slice o d.l.length c) (.slice j d.g.length i) (.int .i64 d.pl) (.int .i64 d.st)) (crr d.a d.b d.f d.s (.slice p d.l.length q) (.slice m d.g.length k) d.pl d.st) d)∧h.heap.size≤lo∧hi≤(Qct W B (.int .i64 d.a) (.int .i64 d.b) (.int .i64 d.f) (.int .i64 d.s) (.slice o d.l.length c) (.slice j d.g.length i) (.int .i64 d.pl) (.int .i64 d.st)).heap.size∧(B' < lo∨hi≤B'):=by
 have t:=QgC u (.int .i64 d.a) (.int .i64 d.b) (.int .i64 d.f) (.int .i64 d.s) (.slice o d.l.length c) (.slice j d.g.length i) (.int .i64 d.pl) (.int .i64 d.st);exact ⟨B,lo,hi,o,c,j,i,rfl,rfl,t,Q2i z r _ _ _ _ _ _ _ _,r,(Array.getElem?_eq_some_iff.1 t).1,n.step (Q6R W B _ _ _ _ _ _ _ _) (by omega),F,by rw [Q5D];exact h2,y⟩
theorem Qil {h W:World} {lo hi:Nat} {f:Value} {d:Cm} {o j:Option Addr} {c i:Nat} (p:Below h.heap.size h W) (n:InCm lo hi W (crr d.a d.b d.f d.s (.slice o d.l.length c) (.slice j d.g.length i) d.pl d.st) d) (t:h.heap.size≤lo) (h2:hi≤W.heap.size):
  ∃B' lo hi q r k m,Value.pointer (some ⟨W.heap.size,0,none⟩)=.pointer (some ⟨B',0,none⟩)∧f=f∧Hid ((W.alloc (.cells #[.int .i64 d.a,.int .i64 d.b,.int .i64 d.f,.int .i64 d.s,.slice o d.l.length c,.slice j d.g.length i,.int .i64 d.pl,.int .i64 d.st] 58)).heap[B']? =some (.cells #[.int .i64 d.a,.int .i64 d.b,.int .i64 d.f,.int .i64 d.s,.slice q d.l.length r,.slice k d.g.length m,.int .i64 d.pl,.int .i64 d.st] 58 (0,0)))∧Hid (Below h.heap.size h (W.alloc (.cells #[.int .i64 d.a,.int .i64 d.b,.int .i64 d.f,.int .i64 d.s,.slice o d.l.length c,.slice j d.g.length i,.int .i64 d.pl,.int .i64 d.st] 58)))∧h.heap.size≤B'∧B' < (W.alloc (.cells #[.int .i64 d.a,.int .i64 d.b,.int .i64 d.f,.int .i64 d.s,.slice o d.l.length c,.slice j d.g.length i,.int .i64 d.pl,.int .i64 d.st] 58)).heap.size∧Hid (InCm lo hi (W.alloc (.cells #[.int .i64 d.a,.int .i64 d.b,.int .i64 d.f,.int .i64 d.s,.slice o d.l.length c,.slice j d.g.length i,.int .i64 d.pl,.int .i64 d.st] 58)) (crr d.a d.b d.f d.s (.slice q d.l.length r) (.slice k d.g.length m) d.pl d.st) d)∧h.heap.size≤lo∧hi≤(W.alloc (.cells #[.int .i64 d.a,.int .i64 d.b,.int .i64 d.f,.int .i64 d.s,.slice o d.l.length c,.slice j d.g.length i,.int .i64 d.pl,.int .i64 d.st] 58)).heap.size∧(B' < lo∨hi≤B'):=
 ⟨W.heap.size,lo,hi,o,c,j,i,rfl,rfl,World.alloc_heap_new W _,p.alloc p.size _,p.size,by simp,n.step (Stp.of (lo:=0) (hi:=0) ((Below.refl _ _).alloc (Kaq _) _)) (.inl (Kcq _)),t,by simp;omega,.inr h2⟩
def Q51 (g:List (Int × Int)) (k:Nat):List Int:=((g.take k).filter (fun p=> p.2==1)).map (fun p=> p.1)
theorem QcW {g:List (Int × Int)} {k:Nat} {x y:Int} (b:k < g.length) (h:g.getD k (0,0)=(x,y)) (a:(y==1)=true):Q51 g (k+1)=Q51 g k++[x]:=by
 unfold Q51;rw [Q8F g k b,h,List.filter_append,List.map_append];simp [a]
theorem Qfi {g:List (Int × Int)} {k:Nat} {x y:Int} (b:k < g.length) (h:g.getD k (0,0)=(x,y)) (a:(y==1)=false):Q51 g (k+1)=Q51 g k:=by
 unfold Q51;rw [Q8F g k b,h,List.filter_append,List.map_append];simp [a]
end Go.Proofs.YtpneolgdghbinaaGreat
namespace Go.Proofs.YtpneolgdghbinaaGreat
open Go.ChangeShapes Go.WideShapes Go.ChangeAt Go.RowKit Go.Joins Go.Shelf
set_option linter.unusedVariables false
set_option linter.unusedSimpArgs false
set_option maxRecDepth 100000
set_option maxHeartbeats 40000000
attribute [local go_sem] Oper.semAt_some
def Q4x (pre:List QbS):List Int:=(pre.filter (fun x=> x.1.2==1)).map (fun x=> x.1.1)
theorem Qar (pre:List QbS) (x:QbS) (h:(x.1.2==1)=true):Q4x (pre++[x])=Q4x pre++[x.1.1]:=by
 unfold Q4x;rw [List.filter_append,List.map_append];simp [h]
theorem Qcc (pre:List QbS) (x:QbS) (h:(x.1.2==1)=false):Q4x (pre++[x])=Q4x pre:=by
 unfold Q4x;rw [List.filter_append,List.map_append];simp [h]
theorem Qe2 (pre:List QbS):(Q4x pre).length≤pre.length:=by
 unfold Q4x;rw [List.length_map];exact List.length_filter_le _ _
theorem Q8L (g:List (Int × Int)) (pl:Int):∀k,k≤g.length→Q4x (upto (Q35 g pl) k)=Q51 g k
 |0,_=> by simp [Q4x,upto,Q51]
 |k+1,hk=> by
  have b:=Q8L g pl k (by omega);obtain ⟨x,y,a⟩:∃x y,g.getD k (0,0)=(x,y):=⟨_,_,rfl⟩
  have e:(Q35 g pl k).1=(x,y):=by unfold Q35;rw [←List.getD_eq_getElem?_getD];exact a
  rw [Q5K]
  cases h:(y==1) with
  |true=> rw [Qar _ _ (by rw [e];exact h),QcW (by omega) a h,b,e]
  |false=> rw [Qcc _ _ (by rw [e];exact h),Qfi (by omega) a h,b]
theorem Q9Q {W:World} {B:Nat} {c:Array Value} {t e:TypeId} {z:Nat × Nat} (h:W.heap[B]? =some (.cells c t z)) (b:t≠e) {base size k:Nat} {v:Value} {i:List Value} (j:W.ownsRow base e size v k i):some B≠v.ownBlock:=by
 rcases j.2 with ⟨rfl,_⟩|⟨g,cap,f,rfl,_,a,_⟩
 ·simp [Value.ownBlock]
 ·intro d
  obtain rfl:B=g:=by simpa [Value.ownBlock] using d
  rw [a] at h;injection h with h;injection h with _ h _;exact b h.symm
theorem Qe4:(58:TypeId)≠3:=by decide
theorem Qeo:(47:TypeId)≠3:=by decide
theorem Qan (a b f s:Int) (o:Option Addr) (len cap bb off y:Nat) (g:List (Int × Int)) (pl st:Int) (w:World) (hl:len≤maxLen) (aq:g.length≤1048576) (R:bb < w.heap.size)
  (H:∀i,i < g.length→w.cell? ⟨bb,off+i * 2,none⟩=some (.int .i64 (g.getD i (0,0)).1)∧w.cell? ⟨bb,off+i * 2+1,none⟩=some (.int .i64 (g.getD i (0,0)).2)) (aj:Q2o a b f s len g pl st=true):
  Calls Tryz.prog 47 #[crr a b f s (.slice o len cap) (.slice (some ⟨bb,off,none⟩) g.length y) pl st] w fun e w'=> ∃v,e=.returned v∧ownL Q2w 3 w' w.heap.size v (Q51 g g.length)∧Below w.heap.size w w':=by
 refine (callsIn_wide (n:=4)).1 ?_;refine callsIn_of_wp_marks Tryz.func47 rfl trivial ?_ rfl;simp only [Tryz.ntmps47,List.size_toArray,List.length_cons,List.length_nil,Nat.reduceAdd,Nat.reduceSub,Array.replicate_succ,Array.replicate_zero,List.push_toArray,List.append_toArray,List.nil_append,List.cons_append];have U:Below w.heap.size w (w.alloc (.cells (Q0y a b f s (.slice o len cap) (.slice (some ⟨bb,off,none⟩) g.length y) pl st) 58)):=(Below.refl _ _).alloc (Kaq _) _
 have hc:=Q6n a b f s o (some ⟨bb,off,none⟩) len cap y g pl st (w.alloc (.cells (Q0y a b f s (.slice o len cap) (.slice (some ⟨bb,off,none⟩) g.length y) pl st) 58)) hl (by unfold maxLen;omega) (RdG.kept (.inr ⟨bb,off,rfl,R,H⟩) U);rw [aj] at hc;have ad:=World.alloc_heap_new w (.cells (Q0y a b f s (.slice o len cap) (.slice (some ⟨bb,off,none⟩) g.length y) pl st) 58);have af:=Q01 U;have ac:=Q01 ad;clear U ad
 gi_wp2_with (refine ⟨trivial, ?_⟩;gi_at_call 19;refine (callsIn_wide.2 hc).mono ?_;rintro e m ⟨rfl,N⟩;have u:=(N.block w.heap.size (by simp)).trans ac.out;have x0:=Q0A u 0 _ rfl;have O:=Q0A u 1 _ rfl;have x2:=Q0A u 2 _ rfl;have x3:=Q0A u 3 _ rfl;have x4:=Q0A u 4 _ rfl;have x5:=Q0A u 5 _ rfl;have x6:=Q0A u 6 _ rfl;have x7:=Q0A u 7 _ rfl;have am:=Q01 u;clear u;have J:w.heap.size < m.heap.size:=(by have h:=N.size;simp at h;omega);have aa:=Q01 (af.out.trans (N.mono (by simp)));clear N)
 refine ⟨trivial, ?_⟩;refine (Qc9 Fence.wide (4 - 1) trivial rfl _ _ _ _ _ _ _ _ _).mono ?_;rintro e w' ⟨rfl,rfl⟩;clear x0 O x2 x3 x4 x5 x6 x7 hc am ac af;have ar:Boxed ((m.alloc (.cells #[.slice none 0 0] 47)).alloc (.cells (Q0y a b f s (.slice o len cap) (.slice (some ⟨bb,off,none⟩) g.length y) pl st) 58)) m.heap.size 47 (.slice none 0 0):=(Boxed.new m 47 (.slice none 0 0)).alloc _
 have T:((m.alloc (.cells #[.slice none 0 0] 47)).alloc (.cells (Q0y a b f s (.slice o len cap) (.slice (some ⟨bb,off,none⟩) g.length y) pl st) 58)).heap[m.heap.size+1]? =some (.cells (Q0y a b f s (.slice o len cap) (.slice (some ⟨bb,off,none⟩) g.length y) pl st) 58 (0,0)):=by
  have:=World.alloc_heap_new (m.alloc (.cells #[.slice none 0 0] 47)) (.cells (Q0y a b f s (.slice o len cap) (.slice (some ⟨bb,off,none⟩) g.length y) pl st) 58)
  simpa only [World.size_alloc] using this
 have ae:Below m.heap.size m ((m.alloc (.cells #[.slice none 0 0] 47)).alloc (.cells (Q0y a b f s (.slice o len cap) (.slice (some ⟨bb,off,none⟩) g.length y) pl st) 58)):=((Below.refl _ m).alloc (Kaq _) _).alloc (by simp) _
 have aC:((m.alloc (.cells #[.slice none 0 0] 47)).alloc (.cells (Q0y a b f s (.slice o len cap) (.slice (some ⟨bb,off,none⟩) g.length y) pl st) 58)).heap.size=m.heap.size+2:=by simp
 gi_wp2
 generalize ((m.alloc (.cells #[.slice none 0 0] 47)).alloc (.cells (Q0y a b f s (.slice o len cap) (.slice (some ⟨bb,off,none⟩) g.length y) pl st) 58))=W0 at *
 have aw:bb < m.heap.size:=by omega
 have M:∀j,j < g.length→W0.cell? ⟨bb,off+j * 2,none⟩=some (.int .i64 (g[j]?.getD (0,0)).1)∧W0.cell? ⟨bb,off+j * 2+1,none⟩=some (.int .i64 (g[j]?.getD (0,0)).2):=fun j hj=> by
  have:=H j hj;rw [List.getD_eq_getElem?_getD] at this;have F:=aa.out.trans (ae.mono (by omega));exact ⟨(F.cell (p:=⟨bb,off+j * 2,none⟩) R).trans this.1,(F.cell (p:=⟨bb,off+j * 2+1,none⟩) R).trans this.2⟩
 refine wpIn_rangeFunc_ownH rfl (by decide) (gf:=148) (lb:=#[.pointer (some ⟨m.heap.size+1,0,none⟩)]) rfl trivial (enters_of Tryz.func148 (by kernel_rfl) rfl)
  (Q7b Fence.wide (4 - 1) trivial rfl (by decide) (m.heap.size+1) m.heap.size bb off y g pl aq W0 (by omega) aw (by omega) (Q0A T 5 _ rfl) (Q0A T 6 _ rfl) M)
  (fun h k=> KpB.trans h k)
  (fun W l ob ah al ag an ak=> ⟨belowK_b (w:=W0) (by omega) W l ob ah al ag an ak,(grownBy_putObj' W l ah).block _ (by have:=(Array.getElem?_eq_some_iff.1 ag).1;omega) (by simp;omega)⟩)
  (Below.refl _ _) (fun _=> rfl)
  (fun t W=> ((∃v,Boxed W m.heap.size 47 v∧W.ownsRow m.heap.size 3 1 v (Q4x t).length ((Q4x t).flatMap Q2w.cs)∧True)∧W.heap[m.heap.size+1]? =some (.cells (Q0y a b f s (.slice o len cap) (.slice (some ⟨bb,off,none⟩) g.length y) pl st) 58 (0,0))∧m.heap.size+2≤W.heap.size)∧Below m.heap.size m W)
  (fun c t W=> False∧Below m.heap.size m W)
  (OwnFrom.and (Own.from (fun q A B row hs Z hr=> by obtain ⟨z,I,V⟩:=hs;exact ⟨holdsRow_own m.heap.size m.heap.size 47 3 1 (fun s=> (Q4x s).length) (fun s=> (Q4x s).flatMap Q2w.cs) (fun _ _=> True) q A B row z Z hr,Q2O I Z hr,Kdq V Z.size⟩) _) (ownFrom_below (Kaq _) (by omega)))
  (fun c=> OwnFrom.and (Own.from (fun q A B row hs Z hr=> hs) _) (ownFrom_below (Kaq _) (by omega)))
  ⟨⟨⟨_,ar,World.ownsRow_nil _ _ _ _,trivial⟩,T,by omega⟩,ae⟩
  (fun x a' W=> ∃Bx,m.heap.size+1 < Bx∧W.heap[Bx]? =some (.cells #[.int .i64 x.1.1,.int .i64 x.1.2] 50 (0,0))∧a'={ tmps:=#[crr a b f s (.slice o len cap) (.slice (some ⟨bb,off,none⟩) g.length y) pl st,.pointer (some ⟨w.heap.size,0,none⟩),.slice none 0 0,.pointer (some ⟨m.heap.size,0,none⟩),.pointer (some ⟨Bx,0,none⟩),.agg #[.int .i64 a,.int .i64 b,.int .i64 f,.int .i64 s,.slice o len cap,.slice (some ⟨bb,off,none⟩) g.length y,.int .i64 pl,.int .i64 st],.bool true,.bool false,.agg #[.int .i64 a,.int .i64 b,.int .i64 f,.int .i64 s,.slice o len cap,.slice (some ⟨bb,off,none⟩) g.length y,.int .i64 pl,.int .i64 st],.func (.func 148) #[] #[.pointer (some ⟨m.heap.size+1,0,none⟩)],seg x.1.1 x.1.2,.bool x.2,undef,undef,undef,undef,undef,undef,undef,undef,undef],defers:=[] })
  (fun x a' _ X Y row hs Z hr=> by obtain ⟨Bx,z,G,e3⟩:=hs;exact ⟨Bx,z,Q2O G Z (fun r e=> (hr r e).2),e3⟩)
  ?assign ?body ?done ?stop
 case assign=>
  rintro l t x W K ⟨⟨⟨v,z,G,_⟩,I,V⟩,F⟩ hK
  gi_wp2
  refine hK _ _ ((KeepsOthers.alloc _ _).from _) ⟨(Below.refl _ W).alloc F.size _,Below.heap_alloc W _ _ (by omega)⟩ ⟨⟨⟨v,z.alloc _,World.ownsRow.alloc G _,trivial⟩,(Below.heap_alloc W _ _ (by omega)).trans I,Kdq V (by simp)⟩,F.alloc F.size _⟩ ⟨W.heap.size,by omega,World.alloc_heap_new W _,rfl⟩
 case body=>
  rintro l t ⟨⟨O,x2⟩,d⟩ a' W hl ⟨r,hr⟩ ⟨⟨⟨v,z,G,_⟩,I,V⟩,F⟩ ⟨Bx,aE,hX,rfl⟩ ay;dsimp only at hX;have aD:=Q0A hX 0 _ rfl;have ax:=Q0A hX 1 _ rfl
  cases hy:(x2==1) with
  |false=>
   have HN:=Q01 (Qcc t ((O,x2),d) hy)
   gi_wp2
   exact ⟨Q30 (Below.refl _ _),⟨Below.refl _ _,rfl⟩,⟨⟨v,z,by rw [HN.out];exact G,trivial⟩,I,V⟩,F⟩
  |true=>
   have HN:=Q01 (Qar t ((O,x2),d) hy);obtain ⟨i0,hi,ap,J,av⟩:=info_parts QbP;have aF:=Qe2 t;have cP:=z.cell;have fP:=z.frozen
   have ai:m.heap.size≤W.heap.size:=by omega
   have ab:=Q9Q I Qe4 G;have HE:=Q01 (And.intro z (And.intro G (And.intro I (And.intro F ab))));have HF:=Q01 (World.ownsRow.alloc G (.cells #[.int .i64 O] 3));have az:=(Boxed.alloc z (.cells #[.int .i64 O] 3)).cell
   have ao:(Q4x t).length≤1048576:=by omega
   obtain ⟨ov,cv,P,_⟩:=ownL.open (L:=Q2w) G;clear z G I F ab;subst P
   gi_wp2_with (refine wpListIn_append_own _ rfl _ _ 47 rfl m.heap.size 3 i0 (.int .i64 0) 1 8 Tryz.underlying47 hi ap J av rfl (by decide) _ _ _ rfl HF.out ⟨W.heap.size,0,none⟩ 1 1 [.int .i64 O] rfl rfl (cell_one_new W _ _) ?h1 ?b1 ?b2 ?b3 ?_)
   case h1=> simp [Value.oneCell']
   case b1=> unfold maxLen;omega
   case b2=> omega
   case b3=> omega
   intro v' w2 C E _;obtain ⟨g',c',rfl⟩:=ownsRow_succ C;obtain ⟨q1,q2,q4,qB,qS⟩:=HE.out;obtain ⟨b1,b2,b3,b4,b5⟩:=Boxed.appended (tmp:=.cells #[.int .i64 O] 3) q1 Qeo q2 ai (Kaq _) C E;have aB:=b1.cell;have aA:=b1.frozen;have HR:=Q01 (And.intro b2 (And.intro b3 (And.intro b4 b5)))
   have HS:Hid ((w2.setCell ⟨m.heap.size,0,none⟩ (.slice (some ⟨g',0,none⟩) ((Q4x t).length+1) c')).heap[m.heap.size+1]? =W.heap[m.heap.size+1]?):=
    (Below.heap_setCell w2 ⟨m.heap.size,0,none⟩ _ (m.heap.size+1) (by simp)).trans ((E.block (m.heap.size+1) (by simp;omega) qS).trans (Below.heap_alloc W _ _ (by omega)))
   clear b1 b2 b3 b4 b5 C E q1 q2
   gi_wp2
   obtain ⟨b2,b3,b4,b5⟩:=HR.out;refine ⟨b4.from _,⟨b5,HS.out⟩,⟨⟨_,b2, ?_,trivial⟩,HS.out.trans q4,Kdq V b5.size⟩,qB.trans b5⟩;rw [HN.out]
   simpa [Q2w] using b3
 case done=>
  rintro D ys W hD rfl ⟨⟨⟨v,z,G,_⟩,I,V⟩,F⟩ hK;obtain ⟨ov,cv,P,_⟩:=ownL.open (L:=Q2w) G;subst P;have cP:=z.cell;have HE:=Q01 (And.intro G F);have au:=Q01 (Q8L g pl g.length (Kaq _));clear z G I F
  gi_wp2
  refine ⟨by simp,.inl ⟨_,_,rfl,run_takeDeferred hK, ?_⟩⟩;refine ⟨.slice ov (Q4x (upto (Q35 g pl) g.length)).length cv,by simp [results,Tryz.f47,go_sem],_,rfl, ?_, ?_⟩
  ·have h1:=ownsRow_putObj HE.out.1 (.deferred none) hK rfl
   unfold ownL;rw [←au.out];exact Q04 h1 (Nat.le_of_lt J)
  ·exact aa.out.trans ((HE.out.2.trans (belowK_b (w:=m) (Kaq _) W D _ _ (by omega) hK rfl rfl)).mono (Nat.le_of_lt J))
 case stop=>
  rintro D c t W hD ⟨k,hk,rfl⟩ ⟨hF,F⟩ hK;exact hF.elim
end Go.Proofs.YtpneolgdghbinaaGreat
