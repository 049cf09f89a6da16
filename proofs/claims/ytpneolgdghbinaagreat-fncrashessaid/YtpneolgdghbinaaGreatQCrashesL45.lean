/- Several texts in one: RouteMath, SRouteS, SRouteI, SRouteOf, SNext, SNext3, ShC, SSend, CutC, SHunt, SHunt2. -/
import Derived.Test.YtpneolgdghbinaaGreatQCrashesL44
import Derived.Test.YtpneolgdghbinaaGreatQCrashesL32
import Derived.Test.YtpneolgdghbinaaGreatQCrashesL42
namespace Go.Proofs.YtpneolgdghbinaaGreat
open Go.ChangeShapes Go.WideShapes Go.ChangeAt Go.RowKit Go.Joins
set_option linter.unusedVariables false
set_option linter.unusedSimpArgs false
set_option maxRecDepth 100000
set_option maxHeartbeats 40000000
def Q1C (ok:Bool) (h:Int) (c:List Int) (i:Nat):List (Int × Int):=(if ok=true then[(h,0)]else[])++((c.take i).filter (fun x=> !ok||x !=h)).map (fun x=>(x,0))
theorem Q7a (ok:Bool) (h:Int) (c:List Int):Q1C ok h c 0=if ok=true then[(h,0)]else[]:=by simp[Q1C]
theorem Q8T {ok:Bool} {h:Int} {c:List Int} {i:Nat} (hi:i < c.length) (a:(!ok||c.getD i 0 !=h)=true):Q1C ok h c (i+1)=Q1C ok h c i++[(c.getD i 0,0)]:=by
 unfold Q1C
 have e:c.getD i 0=c[i]:=by simp[hi]
 rw[e]at a ⊢;rw[List.take_succ_eq_append_getElem hi,List.filter_append,List.map_append,List.append_assoc];simp only[List.filter_cons,a,if_true,List.filter_nil,List.map_cons,List.map_nil]
theorem Qax {ok:Bool} {h:Int} {c:List Int} {i:Nat} (hi:i < c.length) (a:(!ok||c.getD i 0 !=h)=false):Q1C ok h c (i+1)=Q1C ok h c i:=by
 unfold Q1C
 have e:c.getD i 0=c[i]:=by simp[hi]
 rw[e]at a;rw[List.take_succ_eq_append_getElem hi,List.filter_append,List.map_append];simp[a]
theorem Q3w (ok:Bool) (h:Int) (c:List Int) (i:Nat):(Q1C ok h c i).length<=i+1:=by
 unfold Q1C;rw[List.length_append,List.length_map];have a:=List.length_filter_le (fun x=> !ok||x !=h) (c.take i)
 have h2:(c.take i).length<=i:=by rw[List.length_take];omega
 have b:(if ok=true then[(h,(0:Int))]else[]).length<=1:=by cases ok <;> simp
 omega
def Q43 (l:List (Int × Int)) (r:List Int) (i:Nat):List (Int × Int):=l++(r.take i).map (fun x=>(x,1))
theorem Q89 (l:List (Int × Int)) (r:List Int):Q43 l r 0=l:=by simp[Q43]
theorem Q7Y {l:List (Int × Int)} {r:List Int} {i:Nat} (hi:i < r.length):Q43 l r (i+1)=Q43 l r i++[(r.getD i 0,1)]:=by
 unfold Q43
 have e:r.getD i 0=r[i]:=by simp[hi]
 rw[e,List.take_succ_eq_append_getElem hi,List.map_append,List.append_assoc]
 rfl
theorem Q61 (l:List (Int × Int)) (r:List Int) (i:Nat):(Q43 l r i).length<=l.length+i:=by
 unfold Q43;rw[List.length_append,List.length_map,List.length_take];omega
def Q7X (ok:Bool) (h:Int) (c:List Int) (op:Bool) (r:List Int):List (Int × Int):=if op=true then Q43 (Q1C ok h c c.length) r r.length else Q1C ok h c c.length
theorem Q7b {k a p:Int} (h:Q1D k=true) (c:Q0o a p=true):∃q:Nat,Q3a k a p=(q:Int)/\q < 8:=by
 have b:0<=Q3a k a p:=by unfold Q3a;omega
 have h2:Q3a k a p < 8:=by unfold Q3a;omega
 exact⟨(Q3a k a p).toNat,by omega,by omega⟩
structure Ring (lr:List (List (List Int))):Prop where
 pos:1<=lr.length
 le:lr.length<=3
 ok:∀i,i < lr.length->Q1j (lr.getD i [])=true
theorem Ring.len {lr:List (List (List Int))} (h:Ring lr) (i:Nat) (hi:i < lr.length):(lr.getD i []).length=8:=(Q4K (h.ok i hi)).1
theorem Ring.two {lr:List (List (List Int))} (h:Ring lr) (i:Nat) (hi:i < lr.length) (b:Nat) (hb:b < 8):((lr.getD i []).getD b []).length<=2:=Q9D ((Q4K (h.ok i hi)).2 b hb)
theorem Ring.ids {c:List (List (List Int))} (h:Ring c) {b:Nat} (f:b < 8):∀x∈Q3b c b,0<=x/\x < 6:=fun x a=>by
 unfold Q3b at a;rw[QaJ]at a
 rcases a with a|⟨t,g,a⟩
 ·cases a
 ·obtain⟨i,hi,rfl⟩:=List.getElem_of_mem g
  have e:c.getD i []=c[i]:=by simp[hi]
  have d:=(Q4K (h.ok i hi)).2 b f;rw[e]at d;exact QfP d x a
theorem Ring.six {lr:List (List (List Int))} (h:Ring lr) {b:Nat} (hb:b < 8):(Q3b lr b).length<=6:=
 Q9c 6 _ (Q8g b lr List.nodup_nil) (h.ids hb)
theorem QhG {w:World} {x y:Int} {T:TypeId}:RdL Q6B (w.alloc (.cells #[.int .i64 x,.int .i64 y] T)).heap.size (w.alloc (.cells #[.int .i64 x,.int .i64 y] T)) (some ⟨w.heap.size,0,none⟩) [(x,y)]:=
 .inr ⟨w.heap.size,0,rfl,by simp,fun i hi j c=>by
  have a:i=0:=by simpa using hi
  subst a
  have b:j=0\/j=1:=by have:j < 2:=c;omega
  rcases b with rfl|rfl
  ·simp[go_sem,Q6B]
  ·simp[go_sem,Q6B]⟩
def Q40 (kp:Int) (lr:List (List (List Int))) (lt:List Sl) (a b f:Int):List (Int × Int):=Q7X (Q1n lt a b).2 (Qbd lt a b).v (Q3b lr (Q3a kp a b).toNat) (Q83 f) ((lr.getD 0 []).getD (Q3a kp a b).toNat [])
theorem Qiz {k:Int} (h:Q1D k=true):0<=k/\k < 1000000:=by unfold Q1D at h;simpa using h
theorem Q7T (S base:Nat) (m id:Int) (v:Value) (l:List (Int × Int)) (w:World) (z:w.heap[S]? =some (.cells #[v] 41 (0,0))) (D:ownL Q6B 50 w base v l) (T:l.length<=1000) (R:base<=w.heap.size):
  Calls Tryz.prog 90 #[.int .i64 m,.int .i64 id,.pointer (some ⟨S,0,none⟩)] w fun e A=>e=.returned (.tuple #[])/\∃H,A.heap[S]? =some (.cells #[H] 41 (0,0))/\ownL Q6B 50 A base H (l++[(id,m)])/\(∀B,B<=S->B<=base->Below B w A)/\(∀(l2:List Int) (r:Value),ownL Q2m 3 w 0 r l2->ownL Q2m 3 A 0 r l2):=by
 obtain⟨F,E,J,_⟩:=ownL.open (L:=Q6B) D;subst J;have t:S < w.heap.size:=(KEq z);have I:w.cell? ⟨S,0,none⟩=some (.slice F l.length E):=Q00 z 0 _ rfl;have s:=Q02 (World.ownsRow.alloc D (.cells #[.int .i64 id,.int .i64 m] 50));have c:Below w.heap.size w (w.alloc (.cells #[.int .i64 id,.int .i64 m] 50)):=KBq.alloc (Kaq _) _;have N:=bC c I t;have n:=Q02 ((c.block S t).trans z);have C:=Q02 c;clear c z D;go_enter Tryz.func90,Tryz.ntmps90
 go_wp2_with (first|(at_builtin;refine Q07 Qj9 rfl (.tmp 5) (.tmp 9) rfl base _ l rfl s.out (some ⟨w.heap.size,0,none⟩) 1 _ [(id,m)] 1 rfl rfl (by simp) QhG (by simp;omega) (by simp;omega) ?_));intro U j d a _;obtain⟨i,f,G,_⟩:=ownL.open (L:=Q6B) d;obtain⟨g,u⟩:∃x,(l++[(id,m)]).length=x:=⟨_,rfl⟩;rw[u]at G;subst G;clear u
 have M:w.heap.size < j.heap.size:=by have:=a.size;simp at this;omega
 have q:j.heap[S]? =some (.cells #[.slice F l.length E] 41 (0,0)):=by
  refine(a.block S (by simp;omega) ?_).trans n.out;intro e
  rcases Q1R s.out n.out (by decide)with h|h
  ·rw[h]at e;cases e
  ·exact h e.symm
 have b:Hid ((j.setCell ⟨S,0,none⟩ (.slice i g f)).heap[S]? =some (.cells #[.slice i g f] 41 (0,0))/\ownL Q6B 50 (j.setCell ⟨S,0,none⟩ (.slice i g f)) base (.slice i g f) (l++[(id,m)])/\(∀B,B<=S->B<=base->Below B w (j.setCell ⟨S,0,none⟩ (.slice i g f)))/\(∀(l2:List Int) (r:Value),ownL Q2m 3 w 0 r l2->ownL Q2m 3 (j.setCell ⟨S,0,none⟩ (.slice i g f)) 0 r l2)):=by
  refine⟨Q05 q 0 _,World.ownsRow.kept d (Q0H j S 0 (.slice i g f)) (Q1R d q (by decide)),fun B y h2=>?_,fun l2 r h=>?_⟩
  ·exact((((Below.refl B w).alloc (by omega) _).grown a (by simp;omega) (fun k h=>Kdq h2 (s.out.lt k h).1)).setCell (p:=⟨S,0,none⟩) y _)
  ·have y:=World.ownsRow.alloc h (.cells #[.int .i64 id,.int .i64 m] 50)
   have h2:=World.ownsRow.kept y a (Q2B y s.out (by decide));exact World.ownsRow.kept h2 (Q0H j S 0 (.slice i g f)) (Q1R h2 q (by decide))
 have O:j.cell? ⟨S,0,none⟩=some (.slice F l.length E):=Q00 q 0 _ rfl;have P:=Q01 q 0;clear q a d s n C;go_wp2
 go_end0
 exact⟨rfl,.slice i g f,b.out.1,b.out.2.1,b.out.2.2.1,b.out.2.2.2⟩
theorem Qej {m:Pm} {q:Nat} (h:Q1M m=true) (h8:q < 8):QdR m (q:Int)=Q3b m.ring q:=by
 unfold QdR;rw[h,decide_eq_true (show(0:Int)<=q by omega),decide_eq_true (show(q:Int) < 8 by omega)];simp
theorem Ring.of {m:Pm} (h:Q1M m=true):Ring m.ring:=by
 obtain⟨_,_,h3,h4,h5⟩:=Q1r h;exact⟨h3,h4,h5⟩
theorem Qa9 {k a p:Int} (h:Q1D k=true) (hf:Q0o a p=true):Q1V k a p=Q3a k a p:=by
 unfold Q1V;have h1:=Qiz h;rw[if_pos ⟨h1.1,h1.2,hf⟩]
theorem QeW {a b f s:Int} {n:Nat} (h:Q0D a b f s n=true):Q2t a b f s n=Q83 f:=by
 unfold Q2t;rw[h];rfl
theorem Qey (g nt xc base:Nat) (kq:Int) (yo:Option Addr) (yn yc:Nat) (sq kp:Int) (uo:Option Addr) (un uc:Nat) (vo:Option Addr) (vn vc:Nat) (lb:List Bk) (lr:List (List (List Int))) (lt:List Sl) (a b f s:Int) (po:Option Addr) (pn pc:Nat) (w:World)
  (bh:nt=lt.length) (hn:0 < lt.length) (hl:lt.length<=1048576) (bz:pn<=maxLen) (bx:Q0D a b f s pn=true) (a1:Q0o a b=true) (hv:(Q1n lt a b).2=true->0<=(Qbd lt a b).v) (hp:Q4P w.heap.size w (plv kp (.slice uo un uc) (.slice vo vn vc)) ⟨kp,lb,lr⟩) (a2:Q1M ⟨kp,lb,lr⟩=true) (a6:Q2q ⟨kp,lb,lr⟩) (ho:w.ownsRow base Q1B 5 (.slice (some ⟨g,0,none⟩) nt xc) nt (lt.flatMap Q0g.cs)):
  Calls Tryz.prog 39 #[QcF (.slice (some ⟨g,0,none⟩) nt xc) kq (.slice yo yn yc) sq kp (.slice uo un uc) (.slice vo vn vc),pkt a b f s (.slice po pn pc)] w fun e w'=> ∃v,e=.returned v/\ownL Q6B 50 w' w.heap.size v (Q40 kp lr lt a b f)/\Below w.heap.size w w':=by
 have hk:Q1D kp=true:=(Q1r a2).1;have hr:Ring lr:=Ring.of a2;have ay:=Q02 (fun W=>Q6I kp a b W);rw[Qa9 hk a1]at ay;obtain⟨qn,hq,aT⟩:=Q7b hk a1;have aB:=Q02 (show Q40 kp lr lt a b f=Q7X (Q1n lt a b).2 (Qbd lt a b).v (Q3b lr qn) (Q83 f) ((lr.getD 0 []).getD qn [])by unfold Q40;rw[hq];rfl);rw[hq]at ay;have am:=Q02 (fun W (T:Below w.heap.size w W)=>QdF g 0 xc lt a b W hn hl a1 (Kbq (ho.lt g rfl).2 T.size) (Q1i (Q03 ho T) bh));rw[<-bh]at am
 have ap:=Q02 (fun W (T:Below w.heap.size w W)=>Q6i (plv kp (.slice uo un uc) (.slice vo vn vc)) ⟨kp,lb,lr⟩ (qn:Int) W ((hp.kept T (Kaq _)).le T.size) a6);rw[Qej a2 aT]at ap;have aA:=Q02 (fun W=>Q5F a b f s po pn pc W bz);rw[QeW bx]at aA;obtain⟨bT,bU,e9,_,hG⟩:=hp;simp only[Value.agg.injEq,Array.mk.injEq,List.cons.injEq,and_true,true_and]at e9;obtain⟨bG,bH⟩:=e9;subst bG bH;dsimp only at hG ap;obtain⟨oz,cz,ez⟩:=RiR.len hG;injection ez with ez1 ez2 ez3;obtain⟨b1,f1,u1,e1,bt,be,bk⟩:=RiRows.at hG (Kaq _) 0 hr.pos;subst e1;obtain⟨o3,c3,e3,_⟩:=RiT.rd bk;subst e3
 obtain⟨b2,f2,u2,e2,aL,a0,bA⟩:=RiRows.at bk (Kaq _) qn (by rw[hr.len 0 hr.pos];exact aT);subst e2;obtain⟨o9,c9,e9,bl⟩:=RiV.open bA;subst e9;rw[hr.len 0 hr.pos,Nat.add_zero]at be;have h2:=hr.two 0 hr.pos qn aT;have h6:=hr.six aT;have ba:=Q02 (hr.ids aT)
 have bM:0 < vn:=by have:=hr.pos;omega
 have bN:(qn:Int) < 8:=by omega
 clear bk bA hG hr hq hk a1 ho a2 a6 bx bz ez1 ez2 ez3;obtain⟨row,a7⟩:∃r,(lr.getD 0 []).getD qn []=r:=⟨_,rfl⟩;rw[a7]at a0 bl h2 aB;have bq:=Q02 bl;obtain⟨m,hm⟩:∃r,row.length=r:=⟨_,rfl⟩;rw[hm]at a0 h2;have aZ:=Q02 hm;have az:=Q02 (show Qg6 lt a b=if(Q1n lt a b).2=true then(Qbd lt a b).v else -1 from rfl);obtain⟨h,hh⟩:∃q,(Qbd lt a b).v=q:=⟨_,rfl⟩;obtain⟨ok,bi⟩:∃q,(Q1n lt a b).2=q:=⟨_,rfl⟩;obtain⟨cs,bf⟩:∃q,Q3b lr qn=q:=⟨_,rfl⟩;obtain⟨op,bj⟩:∃q,Q83 f=q:=⟨_,rfl⟩;obtain⟨hi,an⟩:∃q,Qg6 lt a b=q:=⟨_,rfl⟩;rw[an]at am az;rw[hh,bi]at az hv
 rw[bf]at ap h6 ba;rw[bj]at aA;rw[hh,bi,bf,bj]at aB;have a4:=Q02 be;have a5:=Q02 a0;clear a7 hm hh bi bf bj an bl bh hn hl be a0
 have bO:∀(fn:Fn) (first cap:Array Value) (w:World),(Instr.makeFunc fn first cap).run Tryz.prog w=.ok (.func fn first cap) w:=fun _ _ _ _=>rfl
 obtain⟨W0,ak⟩:∃W,(((w.alloc (.cells #[.slice (some ⟨g,0,none⟩) nt xc,.int .i64 kq,.slice yo yn yc,.int .i64 sq,.int .i64 kp,.slice uo un uc,.slice (some ⟨b1,f1,none⟩) vn vc] 93)).alloc (.cells #[.int .i64 a,.int .i64 b,.int .i64 f,.int .i64 s,.slice po pn pc] 38)).alloc (.cells #[.slice none 0 0] 41))=W:=⟨_,rfl⟩;have aO:=alb0v0v3 ak;have HB:=Q02 aO;clear aO;have zx:=alz0v0v3 ak;obtain⟨x0,x1,x2,x3,x4,x5,x6⟩:=alc7v0v3 ak;have zp:=alz0v1v3 ak;obtain⟨p0,p1,p2,p3,p4⟩:=alc5v1v3 ak;have bV:=alz0v2v3 ak
 have bS:W0.cell? ⟨w.heap.size+1+1,0,none⟩=some (.slice none 0 0):=by rw[<-ak];simp[go_sem]
 have bs:Hid _:=alx0v2v3 ak
 have bL:w.heap.size+1+1+1=W0.heap.size:=by rw[<-ak];simp
 have d:w.heap.size < w.heap.size+1+1:=by omega
 have j:w.heap.size+1 < w.heap.size+1+1:=by omega
 have af:=HB;clear HB
 cases ok with
 |false=>
  have an:hi=(-1):=by rw[az.out];rfl
  rw[an]at am;clear az an;have aI:=Q02 (Q7a false h cs);clear hv;go_enter Tryz.func39,Tryz.ntmps39;go_wp2_with fail;refine(am.out W0 af.out).mono ?_;rintro e v1 ⟨rfl,T⟩;have aJ:Hid (v1.heap[w.heap.size+1+1]? =some (.cells #[.slice none 0 0] 41 (0,0))):=(T.block _ (by omega)).trans bs.out;have A:Hid (Below (w.heap.size+1+1) W0 v1):=T.mono (by omega);have a3:=T.size;clear T am;have H:=bC A.out x0 d;have I:=bC A.out x1 d;have J:=bC A.out x2 d;have M:=bC A.out x3 d;have N:=bC A.out x4 d;have O:=bC A.out x5 d;have P:=bC A.out x6 d
  have C:=bC A.out p0 j;have D:=bC A.out p1 j;have E:=bC A.out p2 j;have F:=bC A.out p3 j;have G:=bC A.out p4 j;have aE:=Q02 (KLq v1 W0.heap.size 50 2);obtain⟨v2,bK⟩:∃W,v1=W:=⟨_,rfl⟩;subst bK;have ah:=aJ;have aF:=aE;have R:=A;clear aJ aE A a3;go_wp2_with fail;refine(ay.out v1).mono ?_;rintro e v3 ⟨rfl,T⟩;clear H I J M N O P C D E F G;have ai:=Q02 ((T.block _ (KEq ah.out)).trans ah.out);have aG:=Q02 (Q03 aF.out T)
  have u:=Q02 (R.out.trans (T.mono (by have:=(KEq ah.out);omega)));clear T ah aF R ay;have H:=bC u.out x0 d;have I:=bC u.out x1 d;have J:=bC u.out x2 d;have M:=bC u.out x3 d;have N:=bC u.out x4 d;have O:=bC u.out x5 d;have P:=bC u.out x6 d;have C:=bC u.out p0 j;have D:=bC u.out p1 j;have E:=bC u.out p2 j;have F:=bC u.out p3 j;have G:=bC u.out p4 j;go_wp2_with fail;refine(ap.out v3 (af.out.trans (u.out.mono (by omega)))).mono ?_;rintro e v4 ⟨cv,rfl,ao,T⟩
  clear H I J M N O P C D E F G;have aK:=Q02 ((T.block _ (KEq ai.out)).trans ai.out);have aH:=Q02 (Q03 aG.out T);have B:=Q02 (u.out.trans (T.mono (by have:=(KEq ai.out);omega)));have ag:Hid (ownL Q2m 3 v4 0 cv cs):=Q04 ao (Kcq _);clear T ao ai aG u ap;obtain⟨co,cc,e5,_⟩:=ownL.open (L:=Q2m) ag.out;subst e5;obtain⟨n,ax⟩:∃n,cs.length=n:=⟨_,rfl⟩;rw[ax]at ag h6 ⊢;have aD:=Q02 ax;clear ax;have H:=bC B.out x0 d;have I:=bC B.out x1 d;have J:=bC B.out x2 d
  have M:=bC B.out x3 d;have N:=bC B.out x4 d;have O:=bC B.out x5 d;have P:=bC B.out x6 d;have C:=bC B.out p0 j;have D:=bC B.out p1 j;have E:=bC B.out p2 j;have F:=bC B.out p3 j;have G:=bC B.out p4 j;go_wp2
  go_loopw [35] (fun iv wr=> ∃i:Nat,i<=n/\iv=.int .i64 (i:Int)/\∃sv,Hid (wr.heap[w.heap.size+1+1]? =some (.cells #[sv] 41 (0,0)))/\Hid (ownL Q6B 50 wr W0.heap.size sv (Q1C false h cs i))/\Hid (ownL Q2m 3 wr 0 (.slice co n cc) cs)/\Hid (Below (w.heap.size+1+1) W0 wr))
   (fun iv _=>n - (intOf iv).toNat)
  case atStart=>exact⟨0,Kcq _,rfl,_,aK.out,by rw[aI.out];exact aH.out,ag.out,B.out⟩
  case round=>
   clear H I J M N O P C D E F G;clear aK aH ag B aI
   rename World=>wr
   obtain⟨i,bI,rfl,sv,HS,HO,HC,t⟩:=hrel;have H:=bC t.out x0 d;have I:=bC t.out x1 d;have J:=bC t.out x2 d;have M:=bC t.out x3 d;have N:=bC t.out x4 d;have O:=bC t.out x5 d;have P:=bC t.out x6 d;have C:=bC t.out p0 j;have D:=bC t.out p1 j;have E:=bC t.out p2 j;have F:=bC t.out p3 j;have G:=bC t.out p4 j;have aX:=t.out.size
   by_cases hlt:i < n
   ·have bv:(i:Int) < (n:Int):=by omega
    have ab:i < cs.length:=by rw[aD.out];exact hlt
    obtain⟨bE,bD,e5,bm⟩:=ownL.open (L:=Q2m) HC.out;injection e5 with e51 e52 e53;subst e51;clear e52 e53
    rcases bm with hh|⟨b3,f3,rfl,aM,ad⟩
    ·rw[hh]at ab;exact absurd ab (KMq _)
    have av:=RdL.int ad i ab;clear ad;have aw:=Q3w false h cs i;have ar:=Q02 (fun h9=>Q8T (ok:=false) (h:=h) (c:=cs) ab h9);have aC:=Q02 (fun h9=>Qax (ok:=false) (h:=h) (c:=cs) ab h9);obtain⟨au,ae⟩:∃q,Q1C false h cs i=q:=⟨_,rfl⟩;rw[ae]at HO aw ar aC;clear ae;have bg:=ba.out (cs.getD i 0) (by simp[ab]);obtain⟨y,hy⟩:∃y,cs.getD i 0=y:=⟨_,rfl⟩;rw[hy]at av ar aC bg;clear hy
    have hx:¬y= -1:=by omega
    have aa:=Q02 (ar.out (by simp));have Y:=Q02 (Q7T (w.heap.size+1+1) W0.heap.size 0 y sv au wr HS.out HO.out (by omega) aX);go_wp2_with fail;refine(Y.out).mono ?_;rintro e w7 ⟨rfl,bo,aV,aR,V,aU⟩;clear Y;have ac:=Q02 aV;have U:=Q02 aR;have p:=Q02 (t.out.trans (V (w.heap.size+1+1) (Kaq _) (by omega)));have a9:=Q02 (aU _ _ HC.out);clear aV aR V aU;go_wp2;go_roundw
    case rel=>exact⟨i+1,by omega,by go_num,bo,ac.out,by rw[aa.out];exact U.out,a9.out,p.out⟩
    case measure=>simp[intOf];omega
   ·have e:i=n:=by omega
    subst e
    have aq:Hid (Q1C false h cs cs.length=Q1C false h cs i):=by unfold Hid;rw[aD.out]
    go_wp2_with fail;refine(aA.out wr).mono ?_;rintro e w7 ⟨rfl,V⟩;have ac:=Q02 ((V.block _ (KEq HS.out)).trans HS.out);have U:=Q02 (Q03 HO.out V);have p:=Q02 (t.out.trans (V.mono (by omega)));clear H I J M N O P C D E F G;clear V HO HC t aX aA HS;obtain⟨aj,X⟩:∃x,Q1C false h cs i=x:=⟨_,rfl⟩;rw[X]at U aq;have bd:=Q3w false h cs i;rw[X]at bd;clear X
    cases op with
    |false=>
     have s7:w7.cell? ⟨w.heap.size+1+1,0,none⟩=some sv:=Q00 ac.out 0 _ rfl;obtain⟨oo,oc,e6,_⟩:=ownL.open (L:=Q6B) U.out;subst e6;go_wp2;go_ret;exact⟨_,rfl,by rw[aB.out];unfold Q7X;rw[if_neg (by decide),aq.out];exact Q04 U.out (by omega),af.out.trans (p.out.mono (by omega))⟩
    |true=>
     have H:=bC p.out x0 d;have I:=bC p.out x1 d;have J:=bC p.out x2 d;have M:=bC p.out x3 d;have N:=bC p.out x4 d;have O:=bC p.out x5 d;have P:=bC p.out x6 d;have C:=bC p.out p0 j;have D:=bC p.out p1 j;have E:=bC p.out p2 j;have F:=bC p.out p3 j;have G:=bC p.out p4 j;have Z:=Q02 (af.out.trans (p.out.mono (show w.heap.size<=w.heap.size+1+1 by omega)));have aP:=bC Z.out a4.out bt;have aQ:=bC Z.out a5.out aL;go_wp2
     go_loopw [57] (fun kv wq=> ∃k:Nat,k<=m/\kv=.int .i64 (k:Int)/\∃sv,Hid (wq.heap[w.heap.size+1+1]? =some (.cells #[sv] 41 (0,0)))/\Hid (ownL Q6B 50 wq W0.heap.size sv (Q43 aj row k))/\Hid (Below (w.heap.size+1+1) W0 wq))
      (fun kv _=>m - (intOf kv).toNat)
     case atStart=>exact⟨0,Kcq _,rfl,_,ac.out,by rw[Q89];exact U.out,p.out⟩
     case round=>
      clear H I J M N O P C D E F G;clear aP aQ U p ac Z
      rename World=>wq
      obtain⟨k,bJ,rfl,aY,HS,HO,z⟩:=hrel;have bn:=z.out.size;have Z:=Q02 (af.out.trans (z.out.mono (show w.heap.size<=w.heap.size+1+1 by omega)));have H:=bC z.out x0 d;have I:=bC z.out x1 d;have J:=bC z.out x2 d;have M:=bC z.out x3 d;have N:=bC z.out x4 d;have O:=bC z.out x5 d;have P:=bC z.out x6 d;have C:=bC z.out p0 j;have D:=bC z.out p1 j;have E:=bC z.out p2 j;have F:=bC z.out p3 j;have G:=bC z.out p4 j
      by_cases hlk:k < m
      ·have bu:(k:Int) < (m:Int):=by omega
       have al:k < row.length:=by rw[aZ.out];exact hlk
       rcases bq.out with hh|⟨b3,f3,rfl,aM,ad⟩
       ·rw[hh]at al;exact absurd al (KMq _)
       have av:=bC Z.out (RdL.int ad k al) aM;clear ad;have aw:=Q61 aj row k;have aa:=Q02 (Q7Y (l:=aj) al);obtain⟨au,ae⟩:∃q,Q43 aj row k=q:=⟨_,rfl⟩;rw[ae]at HO aw aa;clear ae;obtain⟨y,hy⟩:∃y,row.getD k 0=y:=⟨_,rfl⟩;rw[hy]at av aa;clear hy;have Y:=Q02 (Q7T (w.heap.size+1+1) W0.heap.size 1 y aY au wq HS.out HO.out (by omega) bn);go_wp2_with fail;refine(Y.out).mono ?_;rintro e w8 ⟨rfl,bp,aW,aS,aN,_⟩;clear Y;have bc:=Q02 aW;have bb:=Q02 aS;have a8:=Q02 (z.out.trans (aN (w.heap.size+1+1) (Kaq _) (by omega)));clear aW aS aN;go_wp2;go_roundw
       case rel=>exact⟨k+1,by omega,by go_num,bp,bc.out,by rw[aa.out];exact bb.out,a8.out⟩
       case measure=>simp[intOf];omega
      ·have e:k=m:=by omega
       subst e;have s7:wq.cell? ⟨w.heap.size+1+1,0,none⟩=some aY:=Q00 HS.out 0 _ rfl;obtain⟨oo,oc,e6,_⟩:=ownL.open (L:=Q6B) HO.out;subst e6;go_wp2;go_ret;exact⟨_,rfl,by rw[aB.out];unfold Q7X;rw[if_pos rfl,aq.out,aZ.out];exact Q04 HO.out (by omega),Z.out⟩
 |true=>
  have an:hi=h:=by rw[az.out];rfl
  rw[an]at am;clear az an;have aI:=Q02 (Q7a true h cs);have bP:0<=h:=hv (by first|rfl|trivial)
  have bQ:¬(h= -1):=by omega
  clear hv;go_enter Tryz.func39,Tryz.ntmps39;go_wp2_with fail;refine(am.out W0 af.out).mono ?_;rintro e v1 ⟨rfl,T⟩;have aJ:Hid (v1.heap[w.heap.size+1+1]? =some (.cells #[.slice none 0 0] 41 (0,0))):=(T.block _ (by omega)).trans bs.out;have A:Hid (Below (w.heap.size+1+1) W0 v1):=T.mono (by omega);have a3:=T.size;clear T am;have H:=bC A.out x0 d;have I:=bC A.out x1 d;have J:=bC A.out x2 d;have M:=bC A.out x3 d;have N:=bC A.out x4 d;have O:=bC A.out x5 d;have P:=bC A.out x6 d;have C:=bC A.out p0 j;have D:=bC A.out p1 j
  have E:=bC A.out p2 j;have F:=bC A.out p3 j;have G:=bC A.out p4 j;have aE:=Q02 (KLq v1 W0.heap.size 50 2);have Y:=Q02 (Q7T (w.heap.size+1+1) W0.heap.size 0 h _ [] v1 aJ.out aE.out (by simp) a3);go_wp2_with fail;refine(Y.out).mono ?_;rintro e v2 ⟨rfl,sv,bB,bw,aL,_⟩;clear H I J M N O P C D E F G;clear Y;have ah:=Q02 bB;have aF:=Q02 bw;have R:=Q02 (A.out.trans (aL (w.heap.size+1+1) (Kaq _) (by omega)));clear bB bw aL aJ aE A a3;have H:=bC R.out x0 d;have I:=bC R.out x1 d
  have J:=bC R.out x2 d;have M:=bC R.out x3 d;have N:=bC R.out x4 d;have O:=bC R.out x5 d;have P:=bC R.out x6 d;have C:=bC R.out p0 j;have D:=bC R.out p1 j;have E:=bC R.out p2 j;have F:=bC R.out p3 j;have G:=bC R.out p4 j;go_wp2_with fail;refine(ay.out v2).mono ?_;rintro e v3 ⟨rfl,T⟩;clear H I J M N O P C D E F G;have ai:=Q02 ((T.block _ (KEq ah.out)).trans ah.out);have aG:=Q02 (Q03 aF.out T)
  have u:=Q02 (R.out.trans (T.mono (by have:=(KEq ah.out);omega)));clear T ah aF R ay;have H:=bC u.out x0 d;have I:=bC u.out x1 d;have J:=bC u.out x2 d;have M:=bC u.out x3 d;have N:=bC u.out x4 d;have O:=bC u.out x5 d;have P:=bC u.out x6 d;have C:=bC u.out p0 j;have D:=bC u.out p1 j;have E:=bC u.out p2 j;have F:=bC u.out p3 j;have G:=bC u.out p4 j;go_wp2_with fail;refine(ap.out v3 (af.out.trans (u.out.mono (by omega)))).mono ?_;rintro e v4 ⟨cv,rfl,ao,T⟩
  clear H I J M N O P C D E F G;have aK:=Q02 ((T.block _ (KEq ai.out)).trans ai.out);have aH:=Q02 (Q03 aG.out T);have B:=Q02 (u.out.trans (T.mono (by have:=(KEq ai.out);omega)));have ag:Hid (ownL Q2m 3 v4 0 cv cs):=Q04 ao (Kcq _);clear T ao ai aG u ap;obtain⟨co,cc,e5,_⟩:=ownL.open (L:=Q2m) ag.out;subst e5;obtain⟨n,ax⟩:∃n,cs.length=n:=⟨_,rfl⟩;rw[ax]at ag h6 ⊢;have aD:=Q02 ax;clear ax;have H:=bC B.out x0 d;have I:=bC B.out x1 d;have J:=bC B.out x2 d
  have M:=bC B.out x3 d;have N:=bC B.out x4 d;have O:=bC B.out x5 d;have P:=bC B.out x6 d;have C:=bC B.out p0 j;have D:=bC B.out p1 j;have E:=bC B.out p2 j;have F:=bC B.out p3 j;have G:=bC B.out p4 j;go_wp2
  go_loopw [35] (fun iv wr=> ∃i:Nat,i<=n/\iv=.int .i64 (i:Int)/\∃sv,Hid (wr.heap[w.heap.size+1+1]? =some (.cells #[sv] 41 (0,0)))/\Hid (ownL Q6B 50 wr W0.heap.size sv (Q1C true h cs i))/\Hid (ownL Q2m 3 wr 0 (.slice co n cc) cs)/\Hid (Below (w.heap.size+1+1) W0 wr))
   (fun iv _=>n - (intOf iv).toNat)
  case atStart=>exact⟨0,Kcq _,rfl,_,aK.out,by rw[aI.out];exact aH.out,ag.out,B.out⟩
  case round=>
   clear H I J M N O P C D E F G;clear aK aH ag B aI
   rename World=>wr
   obtain⟨i,bI,rfl,sv,HS,HO,HC,t⟩:=hrel;have H:=bC t.out x0 d;have I:=bC t.out x1 d;have J:=bC t.out x2 d;have M:=bC t.out x3 d;have N:=bC t.out x4 d;have O:=bC t.out x5 d;have P:=bC t.out x6 d;have C:=bC t.out p0 j;have D:=bC t.out p1 j;have E:=bC t.out p2 j;have F:=bC t.out p3 j;have G:=bC t.out p4 j;have aX:=t.out.size
   by_cases hlt:i < n
   ·have bv:(i:Int) < (n:Int):=by omega
    have ab:i < cs.length:=by rw[aD.out];exact hlt
    obtain⟨bE,bD,e5,bm⟩:=ownL.open (L:=Q2m) HC.out;injection e5 with e51 e52 e53;subst e51;clear e52 e53
    rcases bm with hh|⟨b3,f3,rfl,aM,ad⟩
    ·rw[hh]at ab;exact absurd ab (KMq _)
    have av:=RdL.int ad i ab;clear ad;have aw:=Q3w true h cs i;have ar:=Q02 (fun h9=>Q8T (ok:=true) (h:=h) (c:=cs) ab h9);have aC:=Q02 (fun h9=>Qax (ok:=true) (h:=h) (c:=cs) ab h9);obtain⟨au,ae⟩:∃q,Q1C true h cs i=q:=⟨_,rfl⟩;rw[ae]at HO aw ar aC;clear ae;have bg:=ba.out (cs.getD i 0) (by simp[ab]);obtain⟨y,hy⟩:∃y,cs.getD i 0=y:=⟨_,rfl⟩;rw[hy]at av ar aC bg;clear hy
    by_cases hx:y=h
    ·have aa:=Q02 (aC.out (by rw[hx];simp))
     subst hx;go_wp2;go_roundw
     case rel=>exact⟨i+1,by omega,by go_num,sv,HS.out,by rw[aa.out];exact HO.out,HC.out,t.out⟩
     case measure=>simp[intOf];omega
    ·have bR:¬h=y:=fun e=>hx e.symm
     have aa:=Q02 (ar.out (by simp[hx]));have Y:=Q02 (Q7T (w.heap.size+1+1) W0.heap.size 0 y sv au wr HS.out HO.out (by omega) aX);go_wp2_with fail;refine(Y.out).mono ?_;rintro e w7 ⟨rfl,bo,aV,aR,V,aU⟩;clear Y;have ac:=Q02 aV;have U:=Q02 aR;have p:=Q02 (t.out.trans (V (w.heap.size+1+1) (Kaq _) (by omega)));have a9:=Q02 (aU _ _ HC.out);clear aV aR V aU;go_wp2;go_roundw
     case rel=>exact⟨i+1,by omega,by go_num,bo,ac.out,by rw[aa.out];exact U.out,a9.out,p.out⟩
     case measure=>simp[intOf];omega
   ·have e:i=n:=by omega
    subst e
    have aq:Hid (Q1C true h cs cs.length=Q1C true h cs i):=by unfold Hid;rw[aD.out]
    go_wp2_with fail;refine(aA.out wr).mono ?_;rintro e w7 ⟨rfl,V⟩;have ac:=Q02 ((V.block _ (KEq HS.out)).trans HS.out);have U:=Q02 (Q03 HO.out V);have p:=Q02 (t.out.trans (V.mono (by omega)));clear H I J M N O P C D E F G;clear V HO HC t aX aA HS;obtain⟨aj,X⟩:∃x,Q1C true h cs i=x:=⟨_,rfl⟩;rw[X]at U aq;have bd:=Q3w true h cs i;rw[X]at bd;clear X
    cases op with
    |false=>
     have s7:w7.cell? ⟨w.heap.size+1+1,0,none⟩=some sv:=Q00 ac.out 0 _ rfl;obtain⟨oo,oc,e6,_⟩:=ownL.open (L:=Q6B) U.out;subst e6;go_wp2;go_ret;exact⟨_,rfl,by rw[aB.out];unfold Q7X;rw[if_neg (by decide),aq.out];exact Q04 U.out (by omega),af.out.trans (p.out.mono (by omega))⟩
    |true=>
     have H:=bC p.out x0 d;have I:=bC p.out x1 d;have J:=bC p.out x2 d;have M:=bC p.out x3 d;have N:=bC p.out x4 d;have O:=bC p.out x5 d;have P:=bC p.out x6 d;have C:=bC p.out p0 j;have D:=bC p.out p1 j;have E:=bC p.out p2 j;have F:=bC p.out p3 j;have G:=bC p.out p4 j;have Z:=Q02 (af.out.trans (p.out.mono (show w.heap.size<=w.heap.size+1+1 by omega)));have aP:=bC Z.out a4.out bt;have aQ:=bC Z.out a5.out aL;go_wp2
     go_loopw [57] (fun kv wq=> ∃k:Nat,k<=m/\kv=.int .i64 (k:Int)/\∃sv,Hid (wq.heap[w.heap.size+1+1]? =some (.cells #[sv] 41 (0,0)))/\Hid (ownL Q6B 50 wq W0.heap.size sv (Q43 aj row k))/\Hid (Below (w.heap.size+1+1) W0 wq))
      (fun kv _=>m - (intOf kv).toNat)
     case atStart=>exact⟨0,Kcq _,rfl,_,ac.out,by rw[Q89];exact U.out,p.out⟩
     case round=>
      clear H I J M N O P C D E F G;clear aP aQ U p ac Z
      rename World=>wq
      obtain⟨k,bJ,rfl,aY,HS,HO,z⟩:=hrel;have bn:=z.out.size;have Z:=Q02 (af.out.trans (z.out.mono (show w.heap.size<=w.heap.size+1+1 by omega)));have H:=bC z.out x0 d;have I:=bC z.out x1 d;have J:=bC z.out x2 d;have M:=bC z.out x3 d;have N:=bC z.out x4 d;have O:=bC z.out x5 d;have P:=bC z.out x6 d;have C:=bC z.out p0 j;have D:=bC z.out p1 j;have E:=bC z.out p2 j;have F:=bC z.out p3 j;have G:=bC z.out p4 j
      by_cases hlk:k < m
      ·have bu:(k:Int) < (m:Int):=by omega
       have al:k < row.length:=by rw[aZ.out];exact hlk
       rcases bq.out with hh|⟨b3,f3,rfl,aM,ad⟩
       ·rw[hh]at al;exact absurd al (KMq _)
       have av:=bC Z.out (RdL.int ad k al) aM;clear ad;have aw:=Q61 aj row k;have aa:=Q02 (Q7Y (l:=aj) al);obtain⟨au,ae⟩:∃q,Q43 aj row k=q:=⟨_,rfl⟩;rw[ae]at HO aw aa;clear ae;obtain⟨y,hy⟩:∃y,row.getD k 0=y:=⟨_,rfl⟩;rw[hy]at av aa;clear hy;have Y:=Q02 (Q7T (w.heap.size+1+1) W0.heap.size 1 y aY au wq HS.out HO.out (by omega) bn);go_wp2_with fail;refine(Y.out).mono ?_;rintro e w8 ⟨rfl,bp,aW,aS,aN,_⟩;clear Y;have bc:=Q02 aW;have bb:=Q02 aS;have a8:=Q02 (z.out.trans (aN (w.heap.size+1+1) (Kaq _) (by omega)));clear aW aS aN;go_wp2;go_roundw
       case rel=>exact⟨k+1,by omega,by go_num,bp,bc.out,by rw[aa.out];exact bb.out,a8.out⟩
       case measure=>simp[intOf];omega
      ·have e:k=m:=by omega
       subst e;have s7:wq.cell? ⟨w.heap.size+1+1,0,none⟩=some aY:=Q00 HS.out 0 _ rfl;obtain⟨oo,oc,e6,_⟩:=ownL.open (L:=Q6B) HO.out;subst e6;go_wp2;go_ret;exact⟨_,rfl,by rw[aB.out];unfold Q7X;rw[if_pos rfl,aq.out,aZ.out];exact Q04 HO.out (by omega),Z.out⟩
theorem Q7Q {a b f s:Int} {n:Nat} (h:Q0D a b f s n=true):Q0o a b=true:=by
 unfold Q0D at h;simp only[Bool.and_eq_true]at h
 simp_all
theorem Q7J (a b f s:Int) (o:Option Addr) (cap:Nat) (l:List Int) (w:World) (m:Rd w o l) (g:o=none->cap=0) (L:l.length<=1048576):
  Calls Tryz.prog 106 #[pkt a b f s (.slice o l.length cap)] w fun e n=> ∃v,e=.returned (pkt a b f s v)/\ownB n w.heap.size v l/\Below w.heap.size w n:=by
 have d:Below w.heap.size w ((w.alloc (.cells #[.int .i64 a,.int .i64 b,.int .i64 f,.int .i64 s,.slice o l.length cap] 38)).alloc (.cells #[.int .i64 0,.int .i64 0,.int .i64 0,.int .i64 0,.slice none 0 0] 38)):=(KBq.alloc (Kaq _) _).alloc (by simp) _
 have x:((w.alloc (.cells #[.int .i64 a,.int .i64 b,.int .i64 f,.int .i64 s,.slice o l.length cap] 38)).alloc (.cells #[.int .i64 0,.int .i64 0,.int .i64 0,.int .i64 0,.slice none 0 0] 38)).heap.size=w.heap.size+2:=by simp
 have i:boxed w.heap.size a b f s (.slice o l.length cap) ((w.alloc (.cells #[.int .i64 a,.int .i64 b,.int .i64 f,.int .i64 s,.slice o l.length cap] 38)).alloc (.cells #[.int .i64 0,.int .i64 0,.int .i64 0,.int .i64 0,.slice none 0 0] 38)):=by unfold boxed;simp
 have j:empty5 (w.heap.size+1) ((w.alloc (.cells #[.int .i64 a,.int .i64 b,.int .i64 f,.int .i64 s,.slice o l.length cap] 38)).alloc (.cells #[.int .i64 0,.int .i64 0,.int .i64 0,.int .i64 0,.slice none 0 0] 38)):=by
  have:=Qdk (w.alloc (.cells #[.int .i64 a,.int .i64 b,.int .i64 f,.int .i64 s,.slice o l.length cap] 38)) 38
  simpa only[World.size_alloc]using this
 have k:((w.alloc (.cells #[.int .i64 a,.int .i64 b,.int .i64 f,.int .i64 s,.slice o l.length cap] 38)).alloc (.cells #[.int .i64 0,.int .i64 0,.int .i64 0,.int .i64 0,.slice none 0 0] 38)).frozen? ⟨w.heap.size,4,none⟩=false:=by simp
 go_enter Tryz.func106,Tryz.ntmps106;go_wp2_with (at_builtin;refine Q56 rfl _ _ rfl (w.heap.size+2) (.slice none 0 0) [] rfl (KLq _ _ _ _) o cap l rfl g (m.kept d) ?c1 ?c2 ?_)
 case c1=>simp;omega
 case c2=>omega
 generalize ((w.alloc (.cells #[.int .i64 a,.int .i64 b,.int .i64 f,.int .i64 s,.slice o l.length cap] 38)).alloc (.cells #[.int .i64 0,.int .i64 0,.int .i64 0,.int .i64 0,.slice none 0 0] 38))=w0 at *;intro v z hv u c;replace hv:ownB z (w.heap.size+2) v l:=hv;obtain⟨y,t,h,_⟩:=hv.open;subst h;replace i:=i.kept c (by omega);replace j:=j.kept c (by omega);replace k:=(c.frozen (p:=⟨w.heap.size,4,none⟩) (by show w.heap.size < w.heap.size+2;omega)).trans k;have q:=Q02 (d.trans (c.mono (by omega)));have r:=Q02 hv;clear d c hv u m;obtain⟨M,N,O,P,R⟩:=i
 obtain⟨⟨A,B,C,D,E⟩,F,G,H,I,J⟩:=j;go_wp2;refine bodyPost_ret (v:=pkt a b f s (.slice y l.length t)) (by simp[results,Tryz.results106,go_sem,A,B,C,D,E]) rfl ⟨_,rfl, ?_, ?_⟩
 ·refine Q04 (base:=w.heap.size+2) ?_ (by omega)
  repeat (refine ownsRow_setCell_below ?_ (by simp <;> omega) _)
  exact r.out
 ·repeat (refine KNq ?_ (by simp <;> omega) _)
  exact q.out
structure Cm where
 a:Int
 b:Int
 f:Int
 s:Int
 l:List Int
 g:List (Int × Int)
 pl:Int
 st:Int
abbrev InG:=InL Q6B 50
def RdCm (C:Nat) (w:World) (v:Value) (m:Cm):Prop:=∃vl vg,v=crr m.a m.b m.f m.s vl vg m.pl m.st/\RdV Qil C w vl m.l/\RdV Q6B C w vg m.g
def InCm (lo hi:Nat) (w:World) (v:Value) (m:Cm):Prop:=∃vl vg,v=crr m.a m.b m.f m.s vl vg m.pl m.st/\InB lo hi w vl m.l/\InG lo hi w vg m.g
theorem RdCm.le {C D:Nat} {w:World} {v:Value} {m:Cm} (h:RdCm C w v m) (hc:C<=D):RdCm D w v m:=by
 obtain⟨vl,vg,e,h1,h2⟩:=h;exact⟨vl,vg,e,h1.le hc,h2.le hc⟩
theorem InCm.rd {lo hi:Nat} {w:World} {v:Value} {m:Cm} (h:InCm lo hi w v m):RdCm hi w v m:=by
 obtain⟨vl,vg,e,h1,h2⟩:=h;exact⟨vl,vg,e,h1.rd,h2.rd⟩
theorem InCm.step {a b lo hi:Nat} {w d:World} {v:Value} {m:Cm} (h:InCm a b w v m) (s:Stp lo hi w d) (c:hi<=a\/b<=lo):InCm a b d v m:=by
 obtain⟨i,g,e,f,h2⟩:=h;exact⟨i,g,e,f.step s c,h2.step s c⟩
theorem InCm.mono {lo hi b a:Nat} {w:World} {v:Value} {m:Cm} (h:InCm lo hi w v m) (c:b<=lo) (h2:hi<=a):InCm b a w v m:=by
 obtain⟨i,g,e,d,f⟩:=h;exact⟨i,g,e,d.mono c h2,f.mono c h2⟩
def Qii (n:Int):Bool:=decide (0<=n) && decide (n<=100000)
def cm0:Cm:=⟨0,0,0,0,[],[],0,0⟩
def Qdp (m:Bm) (now a b f s:Int) (n:Nat):Bool:=(Q1J m && (Qii now && Q0D a b f s n)) && decide (0 < (Q40 m.p.key m.p.ring m.t a b f).length)
def Q4q (m:Bm) (now a b f s:Int) (l:List Int):Cm:=if Qdp m now a b f s l.length=true then⟨a,b,f,s,l,Q40 m.p.key m.p.ring m.t a b f,0,now⟩else cm0
abbrev Qcz (W:World) (R:Nat) (x0 x1 x2 x3 x4 x5 x6 x7:Value):World:=((((((((W.setCell ⟨R,0,none⟩ x0).setCell ⟨R,1,none⟩ x1).setCell ⟨R,2,none⟩ x2).setCell ⟨R,3,none⟩ x3).setCell ⟨R,4,none⟩ x4).setCell ⟨R,5,none⟩ x5).setCell ⟨R,6,none⟩ x6).setCell ⟨R,7,none⟩ x7)
theorem Q6Z (W:World) (R:Nat) (a b c d f g h i:Value):Stp R (R+1) W (Qcz W R a b c d f g h i):=(((((((Q0w W R 0 a).trans (Q0w _ R 1 b)).trans (Q0w _ R 2 c)).trans (Q0w _ R 3 d)).trans (Q0w _ R 4 f)).trans (Q0w _ R 5 g)).trans (Q0w _ R 6 h)).trans (Q0w _ R 7 i)
theorem Q5i (W:World) (R:Nat) (x0 x1 x2 x3 x4 x5 x6 x7:Value):(Qcz W R x0 x1 x2 x3 x4 x5 x6 x7).heap.size=W.heap.size:=by simp[World.setCell]
theorem Q2d {C:Nat} {w W:World} {R:Nat} (h:Below C w W) (a:C<=R) (b c d f g i j k:Value):Below C w (Qcz W R b c d f g i j k):=((((((((h.setCell (p:=⟨R,0,none⟩) a _).setCell (p:=⟨R,1,none⟩) a _).setCell (p:=⟨R,2,none⟩) a _).setCell (p:=⟨R,3,none⟩) a _).setCell (p:=⟨R,4,none⟩) a _).setCell (p:=⟨R,5,none⟩) a _).setCell (p:=⟨R,6,none⟩) a _).setCell (p:=⟨R,7,none⟩) a _)
theorem Qcn (lo hi:Nat) (w:World):InCm lo hi w (crr 0 0 0 0 (.slice none 0 0) (.slice none 0 0) 0 0) cm0:=⟨_,_,rfl,⟨KLq _ _ _ _,fun b e=>by cases e⟩,⟨KLq _ _ _ _,fun b e=>by cases e⟩⟩
theorem QdK {m:Bm} {a b f s:Int} {n:Nat} (h:Q1J m=true) (j:Q0D a b f s n=true):(Q40 m.p.key m.p.ring m.t a b f).length<=100:=by
 have d:=Q5w h;have i:=Ring.of d;obtain⟨c,k,g⟩:=Q7b (Q1r d).1 (Q7Q j);unfold Q40;rw[k];have l:=i.six g;have h2:=i.two 0 i.pos c g;rw[show((c:Int)).toNat=c from rfl];have q:=Q3w (Q1n m.t a b).2 (Qbd m.t a b).v (Q3b m.p.ring c) (Q3b m.p.ring c).length;unfold Q7X
 split
 ·have r:=Q61 (Q1C (Q1n m.t a b).2 (Qbd m.t a b).v (Q3b m.p.ring c) (Q3b m.p.ring c).length) ((m.p.ring.getD 0 []).getD c []) ((m.p.ring.getD 0 []).getD c []).length
  omega
 ·omega
theorem QeI (g nt xc:Nat) (kq:Int) (yo:Option Addr) (yn yc:Nat) (sq kp:Int) (uo:Option Addr) (un uc:Nat) (vo:Option Addr) (vn vc:Nat) (now a b f s:Int) (po:Option Addr) (pn pc:Nat) (l:List Int) (G:List (Int × Int)) (db:Bool) (mr:Cm) (w:World) (af:decide (0 < G.length)=db) (ag:mr=if db=true then⟨a,b,f,s,l,G,0,now⟩else cm0) (I:pn=l.length) (hR:Rd w po l) (C:po=none->pc=0) (al:l.length<=1048576) (am:G.length<=100)
  (ah:∀W:World,Below w.heap.size w W->Calls Tryz.prog 39 #[QcF (.slice (some ⟨g,0,none⟩) nt xc) kq (.slice yo yn yc) sq kp (.slice uo un uc) (.slice vo vn vc),pkt a b f s (.slice po pn pc)] W fun e w'=> ∃v,e=.returned v/\ownL Q6B 50 w' W.heap.size v G/\Below W.heap.size W w'):
  Calls Tryz.prog 57 #[QcF (.slice (some ⟨g,0,none⟩) nt xc) kq (.slice yo yn yc) sq kp (.slice uo un uc) (.slice vo vn vc),.int .i64 now,pkt a b f s (.slice po pn pc)] w fun e w'=> ∃(xo:Option Addr) (xn xk:Nat) (aj:Option Addr) (ai yk:Nat) (k1 k2 k3 k4 k5:Int),e=.returned (.tuple #[crr k1 k2 k3 k4 (.slice xo xn xk) (.slice aj ai yk) 0 k5,.bool db])/\InCm w.heap.size w'.heap.size w' (crr k1 k2 k3 k4 (.slice xo xn xk) (.slice aj ai yk) 0 k5) mr/\Below w.heap.size w w':=by
 have ad:=Q02 ah;have H:=Q02 (fun W (d:Below w.heap.size w W)=>Q7J a b f s po pc l W (hR.kept d) C al);rw[<-I]at H;have an:=Q02 I;have aa:=Q02 af;have ab:=Q02 ag;clear ah hR C I af ag
 obtain⟨W0,j⟩:∃W,(((w.alloc (.cells #[.slice (some ⟨g,0,none⟩) nt xc,.int .i64 kq,.slice yo yn yc,.int .i64 sq,.int .i64 kp,.slice uo un uc,.slice vo vn vc] 93)).alloc (.cells #[.int .i64 a,.int .i64 b,.int .i64 f,.int .i64 s,.slice po pn pc] 38)).alloc (.cells #[.int .i64 0,.int .i64 0,.int .i64 0,.int .i64 0,.slice none 0 0,.slice none 0 0,.int .i64 0,.int .i64 0] 58))=W:=⟨_,rfl⟩;have m:=alb0v0v3 j;have n:=Q02 m;clear m;have i:=alz0v0v3 j;obtain⟨x0,x1,x2,x3,x4,x5,x6⟩:=alc7v0v3 j;have k:=alz0v1v3 j;obtain⟨p0,p1,p2,p3,p4⟩:=alc5v1v3 j;have h:=alz0v2v3 j
 obtain⟨R,T,U,V,X,Y,Z,r7⟩:=alc8v2v3 j;obtain⟨q,r,t,u,y,z,A,B⟩:=alf8v2v3 j;have ar:w.heap.size+1+1 < W0.heap.size:=h;go_enter Tryz.func57,Tryz.ntmps57;go_wp2_with fail;refine(ad.out W0 n.out).mono ?_;rintro e v1 ⟨rv,rfl,E,d⟩;have M:Hid (ownL Q6B 50 v1 W0.heap.size rv G):=E;have ap:=d.size;clear E;replace x0:=bC d x0 i;replace x1:=bC d x1 i;replace x2:=bC d x2 i;replace x3:=bC d x3 i;replace x4:=bC d x4 i;replace x5:=bC d x5 i;replace x6:=bC d x6 i;replace i:=Kbq i d.size;replace p0:=bC d p0 k;replace p1:=bC d p1 k
 replace p2:=bC d p2 k;replace p3:=bC d p3 k;replace p4:=bC d p4 k;replace k:=Kbq k d.size;replace R:=bC d R h;replace T:=bC d T h;replace U:=bC d U h;replace V:=bC d V h;replace X:=bC d X h;replace Y:=bC d Y h;replace Z:=bC d Z h;replace r7:=bC d r7 h;replace q:=bF d q h;replace r:=bF d r h;replace t:=bF d t h;replace u:=bF d u h;replace y:=bF d y h;replace z:=bF d z h;replace A:=bF d A h;replace B:=bF d B h;replace h:=Kbq h d.size;replace n:=Q02 (n.out.trans (d.mono n.out.size));clear d;clear ad
 obtain⟨ro,rc,e6,_⟩:=ownL.open (L:=Q6B) M.out;subst e6;obtain⟨F,J⟩:∃x,G.length=x:=⟨_,rfl⟩;rw[J]at M am ⊢;have ac:=Q02 J;clear J
 by_cases h0:F=0
 ·subst h0
  have e0:db=false:=by rw[<-aa.out,ac.out];rfl
  subst e0;go_wp2;refine bodyPost_ret (v:=.tuple #[crr 0 0 0 0 (.slice none 0 0) (.slice none 0 0) 0 0,.bool false]) (by simp[results,Tryz.results57,go_sem,R,T,U,V,X,Y,Z,r7]) rfl ⟨none,0,0,none,0,0,0,0,0,0,0,rfl, ?_,Q2d n.out (by omega) _ _ _ _ _ _ _ _⟩;rw[ab.out];exact Qcn _ _ _
 ·have ao:¬((F:Int)=0):=by omega
  have e0:db=true:=by rw[<-aa.out,ac.out];exact decide_eq_true (by omega)
  subst e0;clear h0;go_wp2_with fail;refine(H.out v1 n.out).mono ?_;rintro e v2 ⟨bv,rfl,D,d⟩;have p:Hid (ownB v2 v1.heap.size bv l):=D;have aq:=d.size;clear D;replace x0:=bC d x0 i;replace x1:=bC d x1 i;replace x2:=bC d x2 i;replace x3:=bC d x3 i;replace x4:=bC d x4 i;replace x5:=bC d x5 i;replace x6:=bC d x6 i;replace i:=Kbq i d.size;replace p0:=bC d p0 k;replace p1:=bC d p1 k;replace p2:=bC d p2 k;replace p3:=bC d p3 k;replace p4:=bC d p4 k;replace k:=Kbq k d.size;replace R:=bC d R h;replace T:=bC d T h;replace U:=bC d U h
  replace V:=bC d V h;replace X:=bC d X h;replace Y:=bC d Y h;replace Z:=bC d Z h;replace r7:=bC d r7 h;replace q:=bF d q h;replace r:=bF d r h;replace t:=bF d t h;replace u:=bF d u h;replace y:=bF d y h;replace z:=bF d z h;replace A:=bF d A h;replace B:=bF d B h;replace h:=Kbq h d.size;replace M:=Q02 (Q03 M.out d);replace n:=Q02 (n.out.trans (d.mono n.out.size));clear d;clear H
  obtain⟨P,N,e7⟩:∃o c,bv=.slice o l.length c:=by obtain⟨o,c,e,_⟩:=ownL.open (L:=Qil) (QbU.1 p.out);exact⟨o,c,e⟩
  subst e7;obtain⟨O,ae⟩:∃x,l.length=x:=⟨_,rfl⟩;rw[ae]at p ⊢;clear ae
  have ak:Hid (InCm w.heap.size (Qcz v2 (w.heap.size+1+1) (.int .i64 a) (.int .i64 b) (.int .i64 f) (.int .i64 s) (.slice P O N) (.slice ro F rc) (.int .i64 0) (.int .i64 now)).heap.size (Qcz v2 (w.heap.size+1+1) (.int .i64 a) (.int .i64 b) (.int .i64 f) (.int .i64 s) (.slice P O N) (.slice ro F rc) (.int .i64 0) (.int .i64 now)) (crr a b f s (.slice P O N) (.slice ro F rc) 0 now) ⟨a,b,f,s,l,G,0,now⟩):=by
   have s9:=Q6Z v2 (w.heap.size+1+1) (.int .i64 a) (.int .i64 b) (.int .i64 f) (.int .i64 s) (.slice P O N) (.slice ro F rc) (.int .i64 0) (.int .i64 now);refine⟨_,_,rfl,InRow.mono (InRow.step (InRow.of (QbU.1 p.out)) s9 (.inl (by omega))) (by omega) (by rw[Q5i];exact Kaq _),InRow.mono (InRow.step (InRow.of (show ownL Q6B 50 v2 W0.heap.size _ G from M.out)) s9 (.inl (by omega))) (by omega) (by rw[Q5i];exact Kaq _)⟩
  clear M p;go_wp2;refine bodyPost_ret (v:=.tuple #[crr a b f s (.slice P O N) (.slice ro F rc) 0 now,.bool true]) (by simp[results,Tryz.results57,go_sem,R,T,U,V,X,Y,Z,r7]) rfl ⟨P,O,N,ro,F,rc,a,b,f,s,now,rfl,by rw[ab.out];exact ak.out,Q2d n.out (by omega) _ _ _ _ _ _ _ _⟩
theorem Qa3 (J:Int) (o:Option Addr) (nj c:Nat) (M H:Int) (ob:Option Addr) (np cb:Nat) (oR:Option Addr) (nr cR:Nat) (ot:Option Addr) (nt ct:Nat) (L:List Cd) (lb:List Bk) (F:List (List (List Int))) (lt:List Sl) (now a b f s:Int) (po:Option Addr) (pn pc:Nat) (l:List Int) (w:World)
  (aL:nj=L.length) (aM:nt=lt.length) (h1:RdC w.heap.size w o L) (aX:o=none->c=0) (h2:Q4P w.heap.size w (plv H (.slice ob np cb) (.slice oR nr cR)) ⟨H,lb,F⟩) (h4:RdS w.heap.size w ot lt) (hf:Q6e ⟨⟨J,L,M⟩,⟨H,lb,F⟩,lt⟩) (aq:pn=l.length) (aN:Rd w po l) (aO:po=none->pc=0) (aY:l.length<=1048576):
  Calls Tryz.prog 18 #[Q0O J (.slice o nj c) M H (.slice ob np cb) (.slice oR nr cR) (.slice ot nt ct),.int .i64 now,pkt a b f s (.slice po pn pc)] w fun e w'=> ∃v,e=.returned (.tuple #[v,.bool (Qdp ⟨⟨J,L,M⟩,⟨H,lb,F⟩,lt⟩ now a b f s l.length)])/\InCm w.heap.size w'.heap.size w' v (Q4q ⟨⟨J,L,M⟩,⟨H,lb,F⟩,lt⟩ now a b f s l)/\Below w.heap.size w w':=by
 have au:=Q02 (fun W (i:Below w.heap.size w W)=>Q2G J o nj c M H ob np cb oR nr cR ot nt ct L lb F lt W aL aM ((h1.kept i (Kaq _)).le i.size) aX ((h2.kept i (Kaq _)).le i.size) ((h4.kept i (Kaq _)).le i.size) hf);have f7:lt.length<=1048576:=hf.2.2
 have aP:pn<=maxLen:=by unfold maxLen;omega
 have ak:=Q02 (fun h=>Q3V (m:=⟨⟨J,L,M⟩,⟨H,lb,F⟩,lt⟩) h);have am:=Q02 (fun h=>Q5w (m:=⟨⟨J,L,M⟩,⟨H,lb,F⟩,lt⟩) h);have ao:=Q02 (fun h=>Q1N (m:=⟨⟨J,L,M⟩,⟨H,lb,F⟩,lt⟩) h);have ap:=Q02 (fun h=>Qgv (m:=⟨⟨J,L,M⟩,⟨H,lb,F⟩,lt⟩) h a b);have al:=Q02 (fun h=>Q5r (m:=⟨⟨J,L,M⟩,⟨H,lb,F⟩,lt⟩) h);have aa:=Q02 (fun h h2=>QdK (m:=⟨⟨J,L,M⟩,⟨H,lb,F⟩,lt⟩) (a:=a) (b:=b) (f:=f) (s:=s) (n:=pn) h h2);have aw:=Q02 (fun h=>Q7Q (a:=a) (b:=b) (f:=f) (s:=s) (n:=pn) h)
 have G:=Q02 (show Qdp ⟨⟨J,L,M⟩,⟨H,lb,F⟩,lt⟩ now a b f s l.length=((Q1J ⟨⟨J,L,M⟩,⟨H,lb,F⟩,lt⟩ && (Qii now && Q0D a b f s l.length)) && decide (0 < (Q40 H F lt a b f).length))from rfl);have HM:=Q02 (show Q4q ⟨⟨J,L,M⟩,⟨H,lb,F⟩,lt⟩ now a b f s l=if Qdp ⟨⟨J,L,M⟩,⟨H,lb,F⟩,lt⟩ now a b f s l.length=true then⟨a,b,f,s,l,Q40 H F lt a b f,0,now⟩else cm0 from rfl);dsimp only at am ao ap ak al aa;rw[<-aq]at G HM;rw[<-aq];have an:=Q02 (And.intro aN (And.intro aO aq));clear h1 h2 h4 aL aM hf aN aO aq;obtain⟨bb,aG⟩:∃x,Q1J ⟨⟨J,L,M⟩,⟨H,lb,F⟩,lt⟩=x:=⟨_,rfl⟩
 obtain⟨mr,az⟩:∃r,Q4q ⟨⟨J,L,M⟩,⟨H,lb,F⟩,lt⟩ now a b f s l=r:=⟨_,rfl⟩;obtain⟨sb,ar⟩:∃r,Qdp ⟨⟨J,L,M⟩,⟨H,lb,F⟩,lt⟩ now a b f s pn=r:=⟨_,rfl⟩;rw[az,ar];rw[aG]at au ak am ao ap al aa G;rw[az,ar]at HM;rw[ar]at G;clear aG az ar;obtain⟨nb,aA⟩:∃x,Qii now=x:=⟨_,rfl⟩;obtain⟨pb,aB⟩:∃x,Q0D a b f s pn=x:=⟨_,rfl⟩;have ax:=Q02 aB;have aE:=Q02 aA;rw[aB]at aw aa G;rw[aA]at G;clear aB aA
 obtain⟨W0,O⟩:∃W,(((w.alloc (.cells #[.int .i64 J,.slice o nj c,.int .i64 M,.int .i64 H,.slice ob np cb,.slice oR nr cR,.slice ot nt ct] 34)).alloc (.cells #[.int .i64 a,.int .i64 b,.int .i64 f,.int .i64 s,.slice po pn pc] 38)).alloc (.cells #[.int .i64 0,.int .i64 0,.int .i64 0,.int .i64 0,.slice none 0 0,.slice none 0 0,.int .i64 0,.int .i64 0] 58))=W:=⟨_,rfl⟩;have ab:=alb0v0v3 O;have E:=Q02 ab;clear ab;have k:=alz0v0v3 O;obtain⟨z0,z1,z2,z3,z4,z5,z6⟩:=alc7v0v3 O;have p:=alz0v1v3 O;obtain⟨p0,p1,p2,p3,p4⟩:=alc5v1v3 O;have j:=alz0v2v3 O
 obtain⟨R,T,U,V,X,Y,Z,r7⟩:=alc8v2v3 O;obtain⟨t,u,y,z,A,B,C,D⟩:=alf8v2v3 O;have a5:w.heap.size+1+1 < W0.heap.size:=j;go_enter Tryz.func18,Tryz.ntmps18;go_wp2_with fail;refine(au.out W0 E.out).mono ?_;rintro e v1 ⟨xo,xn,xc,kq,yo,yn,yc,sq,kr,uo,un,uc,vo,vn,vc,rfl,aK,i⟩;have av:=Q02 aK;have a3:=i.size;clear aK au;replace z0:=bC i z0 k;replace z1:=bC i z1 k;replace z2:=bC i z2 k;replace z3:=bC i z3 k;replace z4:=bC i z4 k;replace z5:=bC i z5 k;replace z6:=bC i z6 k;replace k:=Kbq k i.size;replace p0:=bC i p0 p;replace p1:=bC i p1 p
 replace p2:=bC i p2 p;replace p3:=bC i p3 p;replace p4:=bC i p4 p;replace p:=Kbq p i.size;replace R:=bC i R j;replace T:=bC i T j;replace U:=bC i U j;replace V:=bC i V j;replace X:=bC i X j;replace Y:=bC i Y j;replace Z:=bC i Z j;replace r7:=bC i r7 j;replace t:=bF i t j;replace u:=bF i u j;replace y:=bF i y j;replace z:=bF i z j;replace A:=bF i A j;replace B:=bF i B j;replace C:=bF i C j;replace D:=bF i D j;replace j:=Kbq j i.size;replace E:=Q02 (E.out.trans (i.mono E.out.size));clear i
 cases bb with
 |false=>
  obtain⟨W2,P⟩:∃W,(v1.alloc (.cells #[.slice xo xn xc,.int .i64 kq,.slice yo yn yc,.int .i64 sq,.int .i64 kr,.slice uo un uc,.slice vo vn vc] 93))=W:=⟨_,rfl⟩;have d:=alb0v0v1 P;replace z0:=bC d z0 k;replace z1:=bC d z1 k;replace z2:=bC d z2 k;replace z3:=bC d z3 k;replace z4:=bC d z4 k;replace z5:=bC d z5 k;replace z6:=bC d z6 k;replace k:=Kbq k d.size;replace p0:=bC d p0 p;replace p1:=bC d p1 p;replace p2:=bC d p2 p;replace p3:=bC d p3 p;replace p4:=bC d p4 p;replace p:=Kbq p d.size;replace R:=bC d R j
  replace T:=bC d T j;replace U:=bC d U j;replace V:=bC d V j;replace X:=bC d X j;replace Y:=bC d Y j;replace Z:=bC d Z j;replace r7:=bC d r7 j;replace t:=bF d t j;replace u:=bF d u j;replace y:=bF d y j;replace z:=bF d z j;replace A:=bF d A j;replace B:=bF d B j;replace C:=bF d C j;replace D:=bF d D j;replace j:=Kbq j d.size;replace E:=Q02 (E.out.trans (d.mono E.out.size));clear d;have q:=alz0v0v1 P;obtain⟨x0,x1,x2,x3,x4,x5,x6⟩:=alc7v0v1 P;clear av
  have e0:sb=false:=by rw[G.out];simp
  subst e0;go_wp2;refine bodyPost_ret (v:=.tuple #[crr 0 0 0 0 (.slice none 0 0) (.slice none 0 0) 0 0,.bool false]) (by simp[results,Tryz.results18,go_sem,R,T,U,V,X,Y,Z,r7]) rfl ⟨_,rfl, ?_,Q2d E.out (by omega) _ _ _ _ _ _ _ _⟩;rw[HM.out];exact Qcn _ _ _
 |true=>
  have hn:=ak.out rfl;have aQ:=am.out rfl;have aR:=ao.out rfl;have aT:=ap.out rfl;have aJ:=al.out rfl;obtain⟨g,a2,b2,k1,k2,k3,k4,e1,e2,e3,rfl,rfl,i1,i2,i3⟩:=QaH (av.out rfl) hn;rw[<-aR]at i1 e3;dsimp only at i1 e3;subst e3;have HO:=Q02 i2;have N:=Q02 i1
  have a1:a2<=v1.heap.size:=by omega
  have ay:=Q02 (And.intro aT aJ);clear i1 i2 i3 av e1 e2 aR ao aT aJ ap al;obtain⟨W2,P⟩:∃W,(v1.alloc (.cells #[.slice (some ⟨g,0,none⟩) lt.length xc,.int .i64 kq,.slice yo yn yc,.int .i64 sq,.int .i64 kr,.slice uo un uc,.slice vo vn vc] 93))=W:=⟨_,rfl⟩;have d:=alb0v0v1 P;replace z0:=bC d z0 k;replace z1:=bC d z1 k;replace z2:=bC d z2 k;replace z3:=bC d z3 k;replace z4:=bC d z4 k;replace z5:=bC d z5 k;replace z6:=bC d z6 k;replace k:=Kbq k d.size;replace p0:=bC d p0 p;replace p1:=bC d p1 p;replace p2:=bC d p2 p
  replace p3:=bC d p3 p;replace p4:=bC d p4 p;replace p:=Kbq p d.size;replace R:=bC d R j;replace T:=bC d T j;replace U:=bC d U j;replace V:=bC d V j;replace X:=bC d X j;replace Y:=bC d Y j;replace Z:=bC d Z j;replace r7:=bC d r7 j;replace t:=bF d t j;replace u:=bF d u j;replace y:=bF d y j;replace z:=bF d z j;replace A:=bF d A j;replace B:=bF d B j;replace C:=bF d C j;replace D:=bF d D j;replace j:=Kbq j d.size;replace HO:=Q02 (Q03 HO.out d)
  replace E:=Q02 (E.out.trans (d.mono E.out.size));clear d;have q:=alz0v0v1 P;obtain⟨x0,x1,x2,x3,x4,x5,x6⟩:=alc7v0v1 P;replace N:=Q02 (N.out.step (Stp.of (lo:=0) (hi:=0) (show Below v1.heap.size v1 W2 by rw[<-P];exact KBq.alloc (Kaq _) _)) (.inl (Kcq _)));have aZ:v1.heap.size < W2.heap.size:=q
  cases nb with
  |false=>
   go_wp2_with fail;have I:=Q2I now W2
   change Calls _ _ _ _ (fun e w'=>e=.returned (.bool (Qii now))/\_)at I
   rw[aE.out]at I;refine I.mono ?_;rintro e _ ⟨rfl,rfl⟩;clear I;clear HO N
   have e0:sb=false:=by rw[G.out];simp
   subst e0;go_wp2;refine bodyPost_ret (v:=.tuple #[crr 0 0 0 0 (.slice none 0 0) (.slice none 0 0) 0 0,.bool false]) (by simp[results,Tryz.results18,go_sem,R,T,U,V,X,Y,Z,r7]) rfl ⟨_,rfl, ?_,Q2d E.out (by omega) _ _ _ _ _ _ _ _⟩;rw[HM.out];exact Qcn _ _ _
  |true=>
   go_wp2_with fail;have I:=Q2I now W2
   change Calls _ _ _ _ (fun e w'=>e=.returned (.bool (Qii now))/\_)at I
   rw[aE.out]at I;refine I.mono ?_;rintro e _ ⟨rfl,rfl⟩;clear I;have ad:=Q1o a b f s po pn pc W2 aP;rw[ax.out]at ad
   cases pb with
   |false=>
    go_wp2_with fail;refine(ad).mono ?_;rintro e v2 ⟨rfl,i⟩;replace z0:=bC i z0 k;replace z1:=bC i z1 k;replace z2:=bC i z2 k;replace z3:=bC i z3 k;replace z4:=bC i z4 k;replace z5:=bC i z5 k;replace z6:=bC i z6 k;replace k:=Kbq k i.size;replace p0:=bC i p0 p;replace p1:=bC i p1 p;replace p2:=bC i p2 p;replace p3:=bC i p3 p;replace p4:=bC i p4 p;replace p:=Kbq p i.size;replace R:=bC i R j;replace T:=bC i T j;replace U:=bC i U j;replace V:=bC i V j;replace X:=bC i X j;replace Y:=bC i Y j;replace Z:=bC i Z j;replace r7:=bC i r7 j
    replace t:=bF i t j;replace u:=bF i u j;replace y:=bF i y j;replace z:=bF i z j;replace A:=bF i A j;replace B:=bF i B j;replace C:=bF i C j;replace D:=bF i D j;replace j:=Kbq j i.size;replace x0:=bC i x0 q;replace x1:=bC i x1 q;replace x2:=bC i x2 q;replace x3:=bC i x3 q;replace x4:=bC i x4 q;replace x5:=bC i x5 q;replace x6:=bC i x6 q;replace q:=Kbq q i.size;replace HO:=Q02 (Q03 HO.out i);replace E:=Q02 (E.out.trans (i.mono E.out.size));clear i;clear ad HO N
    have e0:sb=false:=by rw[G.out];simp
    subst e0;go_wp2;refine bodyPost_ret (v:=.tuple #[crr 0 0 0 0 (.slice none 0 0) (.slice none 0 0) 0 0,.bool false]) (by simp[results,Tryz.results18,go_sem,R,T,U,V,X,Y,Z,r7]) rfl ⟨_,rfl, ?_,Q2d E.out (by omega) _ _ _ _ _ _ _ _⟩;rw[HM.out];exact Qcn _ _ _
   |true=>
    go_wp2_with fail;refine(ad).mono ?_;rintro e v2 ⟨rfl,i⟩;replace N:=Q02 (N.out.step (Stp.of (lo:=0) (hi:=0) i) (.inl (Kcq _)));have a0:=i.size;replace z0:=bC i z0 k;replace z1:=bC i z1 k;replace z2:=bC i z2 k;replace z3:=bC i z3 k;replace z4:=bC i z4 k;replace z5:=bC i z5 k;replace z6:=bC i z6 k;replace k:=Kbq k i.size;replace p0:=bC i p0 p;replace p1:=bC i p1 p;replace p2:=bC i p2 p;replace p3:=bC i p3 p;replace p4:=bC i p4 p;replace p:=Kbq p i.size;replace R:=bC i R j;replace T:=bC i T j;replace U:=bC i U j;replace V:=bC i V j
    replace X:=bC i X j;replace Y:=bC i Y j;replace Z:=bC i Z j;replace r7:=bC i r7 j;replace t:=bF i t j;replace u:=bF i u j;replace y:=bF i y j;replace z:=bF i z j;replace A:=bF i A j;replace B:=bF i B j;replace C:=bF i C j;replace D:=bF i D j;replace j:=Kbq j i.size;replace x0:=bC i x0 q;replace x1:=bC i x1 q;replace x2:=bC i x2 q;replace x3:=bC i x3 q;replace x4:=bC i x4 q;replace x5:=bC i x5 q;replace x6:=bC i x6 q;replace q:=Kbq q i.size;replace HO:=Q02 (Q03 HO.out i)
    replace E:=Q02 (E.out.trans (i.mono E.out.size));clear i;clear ad;have aS:=aa.out (by first|rfl|trivial) (by first|rfl|trivial);have aI:=aw.out (by first|rfl|trivial);have HG:=Q02 (QeI g lt.length xc kq yo yn yc sq kr uo un uc vo vn vc now a b f s po pn pc l (Q40 kr F lt a b f) _ _ v2 rfl rfl an.out.2.2 (an.out.1.kept E.out) an.out.2.1 aY aS (fun W i=>Qey g lt.length xc a2 kq yo yn yc sq kr uo un uc vo vn vc lb F lt a b f s po pn pc W rfl hn f7 aP ax.out aI ay.out.1 ((N.out.rd.le (by omega)).kept i (Kaq _)|>.le i.size) aQ ay.out.2 (Q03 HO.out i)))
    clear N ax aw ay aQ ak am aa aS aI HO an;obtain⟨db,aH⟩:∃x,decide (0 < (Q40 kr F lt a b f).length)=x:=⟨_,rfl⟩;rw[aH]at HG G;clear aH;obtain⟨aF,ac⟩:∃x:Cm,(if db=true then(⟨a,b,f,s,l,Q40 kr F lt a b f,0,now⟩:Cm)else cm0)=x:=⟨_,rfl⟩;rw[ac]at HG;have aC:=Q02 ac;clear ac
    have e0:sb=db:=by rw[G.out];cases db <;> rfl
    subst e0
    have aW:Hid (mr=aF):=by unfold Hid;rw[HM.out,<-aC.out]
    clear HM aC G;go_wp2_with fail;refine(HG.out).mono ?_;rintro e v3 ⟨ag,af,ae,aj,ai,ah,q1,q2,q3,q4,q5,rfl,aU,i⟩;have aD:=Q02 aU;have a4:=i.size;clear aU;replace z0:=bC i z0 k;replace z1:=bC i z1 k;replace z2:=bC i z2 k;replace z3:=bC i z3 k;replace z4:=bC i z4 k;replace z5:=bC i z5 k;replace z6:=bC i z6 k;replace k:=Kbq k i.size;replace p0:=bC i p0 p;replace p1:=bC i p1 p;replace p2:=bC i p2 p;replace p3:=bC i p3 p;replace p4:=bC i p4 p;replace p:=Kbq p i.size;replace R:=bC i R j;replace T:=bC i T j;replace U:=bC i U j
    replace V:=bC i V j;replace X:=bC i X j;replace Y:=bC i Y j;replace Z:=bC i Z j;replace r7:=bC i r7 j;replace t:=bF i t j;replace u:=bF i u j;replace y:=bF i y j;replace z:=bF i z j;replace A:=bF i A j;replace B:=bF i B j;replace C:=bF i C j;replace D:=bF i D j;replace j:=Kbq j i.size;replace x0:=bC i x0 q;replace x1:=bC i x1 q;replace x2:=bC i x2 q;replace x3:=bC i x3 q;replace x4:=bC i x4 q;replace x5:=bC i x5 q;replace x6:=bC i x6 q;replace q:=Kbq q i.size
    replace E:=Q02 (E.out.trans (i.mono E.out.size));clear i;clear HG
    have aV:Hid (InCm w.heap.size (Qcz v3 (w.heap.size+1+1) (.int .i64 q1) (.int .i64 q2) (.int .i64 q3) (.int .i64 q4) (.slice ag af ae) (.slice aj ai ah) (.int .i64 0) (.int .i64 q5)).heap.size (Qcz v3 (w.heap.size+1+1) (.int .i64 q1) (.int .i64 q2) (.int .i64 q3) (.int .i64 q4) (.slice ag af ae) (.slice aj ai ah) (.int .i64 0) (.int .i64 q5)) (crr q1 q2 q3 q4 (.slice ag af ae) (.slice aj ai ah) 0 q5) aF):=(aD.out.step (Q6Z v3 (w.heap.size+1+1) (.int .i64 q1) (.int .i64 q2) (.int .i64 q3) (.int .i64 q4) (.slice ag af ae) (.slice aj ai ah) (.int .i64 0) (.int .i64 q5)) (.inl (by omega))).mono (by omega) (by rw[Q5i];exact Kaq _)
    clear aD;go_wp2;refine bodyPost_ret (v:=.tuple #[crr q1 q2 q3 q4 (.slice ag af ae) (.slice aj ai ah) 0 q5,.bool sb]) (by simp[results,Tryz.results18,go_sem,R,T,U,V,X,Y,Z,r7]) rfl ⟨_,rfl,by rw[aW.out];exact aV.out,Q2d E.out (by omega) _ _ _ _ _ _ _ _⟩
theorem InCm.opn {lo hi:Nat} {w:World} {v:Value} {m:Cm} (h:InCm lo hi w v m):∃(o:Option Addr) (c:Nat) (i:Option Addr) (d:Nat),v=crr m.a m.b m.f m.s (.slice o m.l.length c) (.slice i m.g.length d) m.pl m.st:=by
 obtain⟨p,n,e,⟨o,c,j,_⟩,⟨i,d,k,_⟩⟩:=h.rd;exact⟨o,c,i,d,by rw[e,j,k]⟩
theorem Q19 {W:World} {B b j:Nat} {u:Value} (h:W.cell? ⟨b,j,none⟩=some u) (m:b < B) (a c d f g i k l:Value):(Qcz W B a c d f g i k l).cell? ⟨b,j,none⟩=some u:=(Q6Z W B a c d f g i k l).cellP h (.inl m)
theorem Qgl {w a:World} {c:Array Value} {T:TypeId} (b:Below (w.alloc (.cells c T)).heap.size (w.alloc (.cells c T)) a):a.heap[w.heap.size]? =some (.cells c T (0,0)):=
 (b.block w.heap.size (by simp)).trans (World.alloc_heap_new w (.cells c T))
theorem QeL {w a:World} {c:Array Value} {T:TypeId} (d:Below ((w.alloc (.cells c T)).drew).heap.size (w.alloc (.cells c T)).drew a):a.heap[w.heap.size]? =some (.cells c T (0,0)):=by
 have b:=d.block w.heap.size (by simp);have h2:(w.alloc (.cells c T)).drew.heap[w.heap.size]? =(w.alloc (.cells c T)).heap[w.heap.size]? :=rfl;exact b.trans (h2.trans (World.alloc_heap_new w (.cells c T)))
theorem Qgx {W:World} {R:Nat} {z r q p n l k i:Value} {T:TypeId} (h:W.heap[R]? =some (.cells #[z,r,q,p,n,l,k,i] T (0,0))) (a b c d f g j m:Value):(Qcz W R a b c d f g j m).heap[R]? =some (.cells #[a,b,c,d,f,g,j,m] T (0,0)):=by
 have s:(W.setCell ⟨R,0,none⟩ a).heap[R]? =some (.cells #[a,r,q,p,n,l,k,i] T (0,0)):=Q05 h 0 a;have t:((W.setCell ⟨R,0,none⟩ a).setCell ⟨R,1,none⟩ b).heap[R]? =some (.cells #[a,b,q,p,n,l,k,i] T (0,0)):=Q05 s 1 b;have h2:(((W.setCell ⟨R,0,none⟩ a).setCell ⟨R,1,none⟩ b).setCell ⟨R,2,none⟩ c).heap[R]? =some (.cells #[a,b,c,p,n,l,k,i] T (0,0)):=Q05 t 2 c;have u:((((W.setCell ⟨R,0,none⟩ a).setCell ⟨R,1,none⟩ b).setCell ⟨R,2,none⟩ c).setCell ⟨R,3,none⟩ d).heap[R]? =some (.cells #[a,b,c,d,n,l,k,i] T (0,0)):=Q05 h2 3 d
 have v:(((((W.setCell ⟨R,0,none⟩ a).setCell ⟨R,1,none⟩ b).setCell ⟨R,2,none⟩ c).setCell ⟨R,3,none⟩ d).setCell ⟨R,4,none⟩ f).heap[R]? =some (.cells #[a,b,c,d,f,l,k,i] T (0,0)):=Q05 u 4 f;have w:((((((W.setCell ⟨R,0,none⟩ a).setCell ⟨R,1,none⟩ b).setCell ⟨R,2,none⟩ c).setCell ⟨R,3,none⟩ d).setCell ⟨R,4,none⟩ f).setCell ⟨R,5,none⟩ g).heap[R]? =some (.cells #[a,b,c,d,f,g,k,i] T (0,0)):=Q05 v 5 g
 have x:(((((((W.setCell ⟨R,0,none⟩ a).setCell ⟨R,1,none⟩ b).setCell ⟨R,2,none⟩ c).setCell ⟨R,3,none⟩ d).setCell ⟨R,4,none⟩ f).setCell ⟨R,5,none⟩ g).setCell ⟨R,6,none⟩ j).heap[R]? =some (.cells #[a,b,c,d,f,g,j,i] T (0,0)):=Q05 w 6 j;have y:((((((((W.setCell ⟨R,0,none⟩ a).setCell ⟨R,1,none⟩ b).setCell ⟨R,2,none⟩ c).setCell ⟨R,3,none⟩ d).setCell ⟨R,4,none⟩ f).setCell ⟨R,5,none⟩ g).setCell ⟨R,6,none⟩ j).setCell ⟨R,7,none⟩ m).heap[R]? =some (.cells #[a,b,c,d,f,g,j,m] T (0,0)):=Q05 x 7 m;exact y
theorem Qc7 {W:World} {B:Nat} {a b c d f g i j:Value} {T:TypeId} (h:W.heap[B]? =some (.cells #[a,b,c,d,f,g,i,j] T (0,0))):W.cell? ⟨B,0,none⟩=some a/\W.cell? ⟨B,1,none⟩=some b/\W.cell? ⟨B,2,none⟩=some c/\W.cell? ⟨B,3,none⟩=some d/\W.cell? ⟨B,4,none⟩=some f/\W.cell? ⟨B,5,none⟩=some g/\W.cell? ⟨B,6,none⟩=some i/\W.cell? ⟨B,7,none⟩=some j/\W.frozen? ⟨B,0,none⟩=false/\W.frozen? ⟨B,1,none⟩=false/\W.frozen? ⟨B,2,none⟩=false/\W.frozen? ⟨B,3,none⟩=false/\W.frozen? ⟨B,4,none⟩=false/\W.frozen? ⟨B,5,none⟩=false/\W.frozen? ⟨B,6,none⟩=false/\W.frozen? ⟨B,7,none⟩=false:=
 ⟨Q00 h 0 _ rfl,Q00 h 1 _ rfl,Q00 h 2 _ rfl,Q00 h 3 _ rfl,Q00 h 4 _ rfl,Q00 h 5 _ rfl,Q00 h 6 _ rfl,Q00 h 7 _ rfl,Q01 h 0,Q01 h 1,Q01 h 2,Q01 h 3,Q01 h 4,Q01 h 5,Q01 h 6,Q01 h 7⟩
theorem Q27 {W:World} {B:Nat} {a b c d f g i:Value} {T:TypeId} (h:W.heap[B]? =some (.cells #[a,b,c,d,f,g,i] T (0,0))):W.cell? ⟨B,0,none⟩=some a/\W.cell? ⟨B,1,none⟩=some b/\W.cell? ⟨B,2,none⟩=some c/\W.cell? ⟨B,3,none⟩=some d/\W.cell? ⟨B,4,none⟩=some f/\W.cell? ⟨B,5,none⟩=some g/\W.cell? ⟨B,6,none⟩=some i:=⟨Q00 h 0 _ rfl,Q00 h 1 _ rfl,Q00 h 2 _ rfl,Q00 h 3 _ rfl,Q00 h 4 _ rfl,Q00 h 5 _ rfl,Q00 h 6 _ rfl⟩
theorem QhN {W:World} {B:Nat} {a b c d f g i j:Value} {T:TypeId} (h:W.heap[B]? =some (.cells #[a,b,c,d,f,g,i,j] T (0,0))):W.cell? ⟨B,0,none⟩=some a/\W.cell? ⟨B,1,none⟩=some b/\W.cell? ⟨B,2,none⟩=some c/\W.cell? ⟨B,3,none⟩=some d/\W.cell? ⟨B,4,none⟩=some f/\W.cell? ⟨B,5,none⟩=some g/\W.cell? ⟨B,6,none⟩=some i/\W.cell? ⟨B,7,none⟩=some j:=⟨Q00 h 0 _ rfl,Q00 h 1 _ rfl,Q00 h 2 _ rfl,Q00 h 3 _ rfl,Q00 h 4 _ rfl,Q00 h 5 _ rfl,Q00 h 6 _ rfl,Q00 h 7 _ rfl⟩
theorem Qh5 {h W:World} {B lo hi:Nat} {f:Value} {d:Cm} {o j:Option Addr} {c i:Nat} {y z A C D E F G:Value} (w:W.heap[B]? =some (.cells #[y,z,A,C,D,E,F,G] 58 (0,0))) (x:Below h.heap.size h W) (r:h.heap.size<=B) (n:InCm lo hi W (crr d.a d.b d.f d.s (.slice o d.l.length c) (.slice j d.g.length i) d.pl d.st) d) (u:h.heap.size<=lo) (h2:hi<=W.heap.size) (v:B < lo\/hi<=B):
  ∃B' lo hi t q m k,Value.pointer (some ⟨B,0,none⟩)=.pointer (some ⟨B',0,none⟩)/\f=f/\Hid ((Qcz W B (.int .i64 d.a) (.int .i64 d.b) (.int .i64 d.f) (.int .i64 d.s) (.slice o d.l.length c) (.slice j d.g.length i) (.int .i64 d.pl) (.int .i64 d.st)).heap[B']? =some (.cells #[.int .i64 d.a,.int .i64 d.b,.int .i64 d.f,.int .i64 d.s,.slice t d.l.length q,.slice m d.g.length k,.int .i64 d.pl,.int .i64 d.st] 58 (0,0)))/\Hid (Below h.heap.size h (Qcz W B (.int .i64 d.a) (.int .i64 d.b) (.int .i64 d.f) (.int .i64 d.s) (.slice o d.l.length c) (.slice j d.g.length i) (.int .i64 d.pl) (.int .i64 d.st)))/\h.heap.size<=B'/\B' < (Qcz W B (.int .i64 d.a) (.int .i64 d.b) (.int .i64 d.f) (.int .i64 d.s) (.slice o d.l.length c) (.slice j d.g.length i) (.int .i64 d.pl) (.int .i64 d.st)).heap.size/\Hid (InCm lo hi (Qcz W B (.int .i64 d.a) (.int .i64 d.b) (.int .i64 d.f) (.int .i64 d.s) (.slice o d.l.length c) (.slice j d.g.length i) (.int .i64 d.pl) (.int .i64 d.st)) (crr d.a d.b d.f d.s (.slice t d.l.length q) (.slice m d.g.length k) d.pl d.st) d)/\h.heap.size<=lo/\hi<=(Qcz W B (.int .i64 d.a) (.int .i64 d.b) (.int .i64 d.f) (.int .i64 d.s) (.slice o d.l.length c) (.slice j d.g.length i) (.int .i64 d.pl) (.int .i64 d.st)).heap.size/\(B' < lo\/hi<=B'):=by
 have p:=Qgx w (.int .i64 d.a) (.int .i64 d.b) (.int .i64 d.f) (.int .i64 d.s) (.slice o d.l.length c) (.slice j d.g.length i) (.int .i64 d.pl) (.int .i64 d.st);exact⟨B,lo,hi,o,c,j,i,rfl,rfl,p,Q2d x r _ _ _ _ _ _ _ _,r,(KEq p),n.step (Q6Z W B _ _ _ _ _ _ _ _) (by omega),u,by rw[Q5i];exact h2,v⟩
theorem Qhn {h W:World} {lo hi:Nat} {f:Value} {d:Cm} {o j:Option Addr} {c i:Nat} (p:Below h.heap.size h W) (n:InCm lo hi W (crr d.a d.b d.f d.s (.slice o d.l.length c) (.slice j d.g.length i) d.pl d.st) d) (t:h.heap.size<=lo) (h2:hi<=W.heap.size):
  ∃B' lo hi r q m k,Value.pointer (some ⟨W.heap.size,0,none⟩)=.pointer (some ⟨B',0,none⟩)/\f=f/\Hid ((W.alloc (.cells #[.int .i64 d.a,.int .i64 d.b,.int .i64 d.f,.int .i64 d.s,.slice o d.l.length c,.slice j d.g.length i,.int .i64 d.pl,.int .i64 d.st] 58)).heap[B']? =some (.cells #[.int .i64 d.a,.int .i64 d.b,.int .i64 d.f,.int .i64 d.s,.slice r d.l.length q,.slice m d.g.length k,.int .i64 d.pl,.int .i64 d.st] 58 (0,0)))/\Hid (Below h.heap.size h (W.alloc (.cells #[.int .i64 d.a,.int .i64 d.b,.int .i64 d.f,.int .i64 d.s,.slice o d.l.length c,.slice j d.g.length i,.int .i64 d.pl,.int .i64 d.st] 58)))/\h.heap.size<=B'/\B' < (W.alloc (.cells #[.int .i64 d.a,.int .i64 d.b,.int .i64 d.f,.int .i64 d.s,.slice o d.l.length c,.slice j d.g.length i,.int .i64 d.pl,.int .i64 d.st] 58)).heap.size/\Hid (InCm lo hi (W.alloc (.cells #[.int .i64 d.a,.int .i64 d.b,.int .i64 d.f,.int .i64 d.s,.slice o d.l.length c,.slice j d.g.length i,.int .i64 d.pl,.int .i64 d.st] 58)) (crr d.a d.b d.f d.s (.slice r d.l.length q) (.slice m d.g.length k) d.pl d.st) d)/\h.heap.size<=lo/\hi<=(W.alloc (.cells #[.int .i64 d.a,.int .i64 d.b,.int .i64 d.f,.int .i64 d.s,.slice o d.l.length c,.slice j d.g.length i,.int .i64 d.pl,.int .i64 d.st] 58)).heap.size/\(B' < lo\/hi<=B'):=
 ⟨W.heap.size,lo,hi,o,c,j,i,rfl,rfl,World.alloc_heap_new W _,p.alloc p.size _,p.size,by simp,n.step (Stp.of (lo:=0) (hi:=0) (KBq.alloc (Kaq _) _)) (.inl (Kcq _)),t,by simp;omega,.inr h2⟩
def Q4S (g:List (Int × Int)) (k:Nat):List Int:=((g.take k).filter (fun p=>p.2==1)).map (fun p=>p.1)
theorem QcN {g:List (Int × Int)} {k:Nat} {x y:Int} (a:k < g.length) (h:g.getD k (0,0)=(x,y)) (b:(y==1)=true):Q4S g (k+1)=Q4S g k++[x]:=by
 unfold Q4S;rw[Q8u g k a,h,List.filter_append,List.map_append];simp[b]
theorem Qfw {g:List (Int × Int)} {k:Nat} {x y:Int} (a:k < g.length) (h:g.getD k (0,0)=(x,y)) (b:(y==1)=false):Q4S g (k+1)=Q4S g k:=by
 unfold Q4S;rw[Q8u g k a,h,List.filter_append,List.map_append];simp[b]
end Go.Proofs.YtpneolgdghbinaaGreat
namespace Go.Proofs.YtpneolgdghbinaaGreat
open Go.ChangeShapes Go.WideShapes Go.ChangeAt Go.RowKit Go.Joins Go.Shelf
set_option linter.unusedVariables false
set_option linter.unusedSimpArgs false
set_option maxRecDepth 100000
set_option maxHeartbeats 40000000
attribute [local go_sem] Oper.semAt_some
def Q4c (pre:List Qbp):List Int:=(pre.filter (fun x=>x.1.2==1)).map (fun x=>x.1.1)
theorem Qau (pre:List Qbp) (x:Qbp) (h:(x.1.2==1)=true):Q4c (pre++[x])=Q4c pre++[x.1.1]:=by
 unfold Q4c;rw[List.filter_append,List.map_append];simp[h]
theorem Qc1 (pre:List Qbp) (x:Qbp) (h:(x.1.2==1)=false):Q4c (pre++[x])=Q4c pre:=by
 unfold Q4c;rw[List.filter_append,List.map_append];simp[h]
theorem Qe3 (pre:List Qbp):(Q4c pre).length<=pre.length:=by
 unfold Q4c;rw[List.length_map];exact List.length_filter_le _ _
theorem Q8A (g:List (Int × Int)) (pl:Int):∀k,k<=g.length->Q4c (upto (Q2U g pl) k)=Q4S g k
 |0,_=>by simp[Q4c,upto,Q4S]
 |k+1,hk=>by
  have b:=Q8A g pl k (by omega);obtain⟨x,y,a⟩:∃x y,g.getD k (0,0)=(x,y):=⟨_,_,rfl⟩
  have e:(Q2U g pl k).1=(x,y):=by unfold Q2U;rw[<-KFq];exact a
  rw[Q5I]
  cases h:(y==1)with
  |true=>rw[Qau _ _ (by rw[e];exact h),QcN (by omega) a h,b,e]
  |false=>rw[Qc1 _ _ (by rw[e];exact h),Qfw (by omega) a h,b]
theorem Q90 {W:World} {B:Nat} {c:Array Value} {t e:TypeId} {z:Nat × Nat} (h:W.heap[B]? =some (.cells c t z)) (b:t≠e) {base size k:Nat} {v:Value} {j:List Value} (i:W.ownsRow base e size v k j):some B≠v.ownBlock:=by
 rcases i.2 with⟨rfl,_⟩|⟨g,cap,d,rfl,_,a,_⟩
 ·simp[Value.ownBlock]
 ·intro f
  obtain rfl:B=g:=by simpa[Value.ownBlock]using f
  rw[a]at h;injection h with h;injection h with _ h _;exact b h.symm
theorem Qfb:(58:TypeId)≠3:=by decide
theorem QfG:(47:TypeId)≠3:=by decide
theorem QaC (a b f s:Int) (o:Option Addr) (len cap bb off y:Nat) (g:List (Int × Int)) (pl st:Int) (w:World) (hl:len<=maxLen) (al:g.length<=1048576) (U:bb < w.heap.size)
  (H:∀i,i < g.length->w.cell? ⟨bb,off+i * 2,none⟩=some (.int .i64 (g.getD i (0,0)).1)/\w.cell? ⟨bb,off+i * 2+1,none⟩=some (.int .i64 (g.getD i (0,0)).2)) (ar:Q2e a b f s len g pl st=true):
  Calls Tryz.prog 47 #[crr a b f s (.slice o len cap) (.slice (some ⟨bb,off,none⟩) g.length y) pl st] w fun e w'=> ∃v,e=.returned v/\ownL Q2m 3 w' w.heap.size v (Q4S g g.length)/\Below w.heap.size w w':=by
 refine(callsIn_wide (n:=4)).1 ?_;refine callsIn_of_wp_marks Tryz.func47 rfl trivial ?_ rfl;simp only[Tryz.ntmps47,List.size_toArray,List.length_cons,List.length_nil,Nat.reduceAdd,Nat.reduceSub,Array.replicate_succ,Array.replicate_zero,List.push_toArray,List.append_toArray,List.nil_append,List.cons_append];have T:Below w.heap.size w (w.alloc (.cells (Q0z a b f s (.slice o len cap) (.slice (some ⟨bb,off,none⟩) g.length y) pl st) 58)):=KBq.alloc (Kaq _) _
 have hc:=Q5R a b f s o (some ⟨bb,off,none⟩) len cap y g pl st (w.alloc (.cells (Q0z a b f s (.slice o len cap) (.slice (some ⟨bb,off,none⟩) g.length y) pl st) 58)) hl (by unfold maxLen;omega) (RdG.kept (.inr ⟨bb,off,rfl,U,H⟩) T);rw[ar]at hc;have ag:=World.alloc_heap_new w (.cells (Q0z a b f s (.slice o len cap) (.slice (some ⟨bb,off,none⟩) g.length y) pl st) 58);have aa:=Q02 T;have ac:=Q02 ag;clear T ag
 gi_wp2_with (refine⟨trivial, ?_⟩;gi_at_call 19;refine(callsIn_wide.2 hc).mono ?_;rintro e m ⟨rfl,J⟩;have u:=(J.block w.heap.size (by simp)).trans ac.out;have x0:=Q0B u 0 _ rfl;have O:=Q0B u 1 _ rfl;have x2:=Q0B u 2 _ rfl;have x3:=Q0B u 3 _ rfl;have x4:=Q0B u 4 _ rfl;have x5:=Q0B u 5 _ rfl;have x6:=Q0B u 6 _ rfl;have x7:=Q0B u 7 _ rfl;have ai:=Q02 u;clear u;have N:w.heap.size < m.heap.size:=(by have h:=J.size;simp at h;omega);have ab:=Q02 (aa.out.trans (J.mono (by simp)));clear J)
 refine⟨trivial, ?_⟩;refine(Qcs Fence.wide (4 - 1) trivial rfl _ _ _ _ _ _ _ _ _).mono ?_;rintro e w' ⟨rfl,rfl⟩;clear x0 O x2 x3 x4 x5 x6 x7 hc ai ac aa;have aj:Boxed ((m.alloc (.cells #[.slice none 0 0] 47)).alloc (.cells (Q0z a b f s (.slice o len cap) (.slice (some ⟨bb,off,none⟩) g.length y) pl st) 58)) m.heap.size 47 (.slice none 0 0):=(Boxed.new m 47 (.slice none 0 0)).alloc _
 have R:((m.alloc (.cells #[.slice none 0 0] 47)).alloc (.cells (Q0z a b f s (.slice o len cap) (.slice (some ⟨bb,off,none⟩) g.length y) pl st) 58)).heap[m.heap.size+1]? =some (.cells (Q0z a b f s (.slice o len cap) (.slice (some ⟨bb,off,none⟩) g.length y) pl st) 58 (0,0)):=by
  have:=World.alloc_heap_new (m.alloc (.cells #[.slice none 0 0] 47)) (.cells (Q0z a b f s (.slice o len cap) (.slice (some ⟨bb,off,none⟩) g.length y) pl st) 58)
  simpa only[World.size_alloc]using this
 have ad:Below m.heap.size m ((m.alloc (.cells #[.slice none 0 0] 47)).alloc (.cells (Q0z a b f s (.slice o len cap) (.slice (some ⟨bb,off,none⟩) g.length y) pl st) 58)):=((Below.refl _ m).alloc (Kaq _) _).alloc (by simp) _
 have aF:((m.alloc (.cells #[.slice none 0 0] 47)).alloc (.cells (Q0z a b f s (.slice o len cap) (.slice (some ⟨bb,off,none⟩) g.length y) pl st) 58)).heap.size=m.heap.size+2:=by simp
 gi_wp2
 generalize ((m.alloc (.cells #[.slice none 0 0] 47)).alloc (.cells (Q0z a b f s (.slice o len cap) (.slice (some ⟨bb,off,none⟩) g.length y) pl st) 58))=W0 at *
 have ak:bb < m.heap.size:=by omega
 have M:∀j,j < g.length->W0.cell? ⟨bb,off+j * 2,none⟩=some (.int .i64 (g[j]?.getD (0,0)).1)/\W0.cell? ⟨bb,off+j * 2+1,none⟩=some (.int .i64 (g[j]?.getD (0,0)).2):=fun j hj=>by
  have:=H j hj;rw[KFq]at this;have G:=ab.out.trans (ad.mono (by omega));exact⟨(G.cell (p:=⟨bb,off+j * 2,none⟩) U).trans this.1,(G.cell (p:=⟨bb,off+j * 2+1,none⟩) U).trans this.2⟩
 refine wpIn_rangeFunc_ownH rfl (by decide) (gf:=148) (lb:=#[.pointer (some ⟨m.heap.size+1,0,none⟩)]) rfl trivial (enters_of Tryz.func148 (by kernel_rfl) rfl)
  (Q7U Fence.wide (4 - 1) trivial rfl (by decide) (m.heap.size+1) m.heap.size bb off y g pl al W0 (by omega) ak (by omega) (Q0B R 5 _ rfl) (Q0B R 6 _ rfl) M)
  (fun h k=>KpB.trans h k)
  (fun W l ob ah am af ao ap=>⟨belowK_b (w:=W0) (by omega) W l ob ah am af ao ap,(grownBy_putObj' W l ah).block _ (by have:=(KEq af);omega) (by simp;omega)⟩)
  KBq (fun _=>rfl)
  (fun t W=>((∃v,Boxed W m.heap.size 47 v/\W.ownsRow m.heap.size 3 1 v (Q4c t).length ((Q4c t).flatMap Q2m.cs)/\True)/\W.heap[m.heap.size+1]? =some (.cells (Q0z a b f s (.slice o len cap) (.slice (some ⟨bb,off,none⟩) g.length y) pl st) 58 (0,0))/\m.heap.size+2<=W.heap.size)/\Below m.heap.size m W)
  (fun c t W=>False/\Below m.heap.size m W)
  (OwnFrom.and (Own.from (fun q A B row hs hg hr=>by obtain⟨z,I,P⟩:=hs;exact⟨holdsRow_own m.heap.size m.heap.size 47 3 1 (fun s=>(Q4c s).length) (fun s=>(Q4c s).flatMap Q2m.cs) (fun _ _=>True) q A B row z hg hr,Q2E I hg hr,Kdq P hg.size⟩) _) (ownFrom_below (Kaq _) (by omega)))
  (fun c=>OwnFrom.and (Own.from (fun q A B row hs hg hr=>hs) _) (ownFrom_below (Kaq _) (by omega)))
  ⟨⟨⟨_,aj,KLq _ _ _ _,trivial⟩,R,by omega⟩,ad⟩
  (fun x a' W=> ∃Bx,m.heap.size+1 < Bx/\W.heap[Bx]? =some (.cells #[.int .i64 x.1.1,.int .i64 x.1.2] 50 (0,0))/\a'={ tmps:=#[crr a b f s (.slice o len cap) (.slice (some ⟨bb,off,none⟩) g.length y) pl st,.pointer (some ⟨w.heap.size,0,none⟩),.slice none 0 0,.pointer (some ⟨m.heap.size,0,none⟩),.pointer (some ⟨Bx,0,none⟩),.agg #[.int .i64 a,.int .i64 b,.int .i64 f,.int .i64 s,.slice o len cap,.slice (some ⟨bb,off,none⟩) g.length y,.int .i64 pl,.int .i64 st],.bool true,.bool false,.agg #[.int .i64 a,.int .i64 b,.int .i64 f,.int .i64 s,.slice o len cap,.slice (some ⟨bb,off,none⟩) g.length y,.int .i64 pl,.int .i64 st],.func (.func 148) #[] #[.pointer (some ⟨m.heap.size+1,0,none⟩)],seg x.1.1 x.1.2,.bool x.2,undef,undef,undef,undef,undef,undef,undef,undef,undef],defers:=[] })
  (fun x a' _ X Y row hs hg hr=>by obtain⟨Bx,z,F,e3⟩:=hs;exact⟨Bx,z,Q2E F hg (fun r e=>(hr r e).2),e3⟩)
  ?assign ?body ?done ?stop
 case assign=>
  rintro l t x W K ⟨⟨⟨v,z,F,_⟩,I,P⟩,G⟩ hK
  gi_wp2
  refine hK _ _ ((KeepsOthers.alloc _ _).from _) ⟨(Below.refl _ W).alloc G.size _,Below.heap_alloc W _ _ (by omega)⟩ ⟨⟨⟨v,z.alloc _,World.ownsRow.alloc F _,trivial⟩,(Below.heap_alloc W _ _ (by omega)).trans I,Kdq P (by simp)⟩,G.alloc G.size _⟩ ⟨W.heap.size,by omega,World.alloc_heap_new W _,rfl⟩
 case body=>
  rintro l t ⟨⟨O,x2⟩,d⟩ a' W hl ⟨r,hr⟩ ⟨⟨⟨v,z,F,_⟩,I,P⟩,G⟩ ⟨Bx,aC,hX,rfl⟩ aE;dsimp only at hX;have az:=Q0B hX 0 _ rfl;have aA:=Q0B hX 1 _ rfl
  cases hy:(x2==1)with
  |false=>
   have HN:=Q02 (Qc1 t ((O,x2),d) hy)
   gi_wp2
   exact⟨Q2J KBq,⟨KBq,rfl⟩,⟨⟨v,z,by rw[HN.out];exact F,trivial⟩,I,P⟩,G⟩
  |true=>
   have HN:=Q02 (Qau t ((O,x2),d) hy);obtain⟨i0,hi,av,N,aw⟩:=info_parts Qbl;have aD:=Qe3 t;have cP:=z.cell;have fP:=z.frozen
   have aq:m.heap.size<=W.heap.size:=by omega
   have ae:=Q90 I Qfb F;have HE:=Q02 (And.intro z (And.intro F (And.intro I (And.intro G ae))));have HF:=Q02 (World.ownsRow.alloc F (.cells #[.int .i64 O] 3));have ay:=(Boxed.alloc z (.cells #[.int .i64 O] 3)).cell
   have an:(Q4c t).length<=1048576:=by omega
   obtain⟨ov,cv,V,_⟩:=ownL.open (L:=Q2m) F;clear z F I G ae;subst V
   gi_wp2_with (refine wpListIn_append_own _ rfl _ _ 47 rfl m.heap.size 3 i0 (.int .i64 0) 1 8 Tryz.underlying47 hi av N aw rfl (by decide) _ _ _ rfl HF.out ⟨W.heap.size,0,none⟩ 1 1 [.int .i64 O] rfl rfl (cell_one_new W _ _) ?h1 ?b1 ?b2 ?b3 ?_)
   case h1=>simp[Value.oneCell']
   case b1=>unfold maxLen;omega
   case b2=>omega
   case b3=>omega
   intro v' w2 E C _;obtain⟨g',c',rfl⟩:=ownsRow_succ E;obtain⟨q1,q2,q4,qB,qS⟩:=HE.out;obtain⟨b1,b2,b3,b4,Z⟩:=Boxed.appended (tmp:=.cells #[.int .i64 O] 3) q1 QfG q2 aq (Kaq _) E C;have ax:=b1.cell;have aB:=b1.frozen;have HR:=Q02 (And.intro b2 (And.intro b3 (And.intro b4 Z)))
   have HS:Hid ((w2.setCell ⟨m.heap.size,0,none⟩ (.slice (some ⟨g',0,none⟩) ((Q4c t).length+1) c')).heap[m.heap.size+1]? =W.heap[m.heap.size+1]?):=
    (Below.heap_setCell w2 ⟨m.heap.size,0,none⟩ _ (m.heap.size+1) (by simp)).trans ((C.block (m.heap.size+1) (by simp;omega) qS).trans (Below.heap_alloc W _ _ (by omega)))
   clear b1 b2 b3 b4 Z E C q1 q2
   gi_wp2
   obtain⟨b2,b3,b4,Z⟩:=HR.out;refine⟨b4.from _,⟨Z,HS.out⟩,⟨⟨_,b2, ?_,trivial⟩,HS.out.trans q4,Kdq P Z.size⟩,qB.trans Z⟩;rw[HN.out]
   simpa[Q2m]using b3
 case done=>
  rintro D ys W hD rfl ⟨⟨⟨v,z,F,_⟩,I,P⟩,G⟩ hK;obtain⟨ov,cv,V,_⟩:=ownL.open (L:=Q2m) F;subst V;have cP:=z.cell;have HE:=Q02 (And.intro F G);have au:=Q02 (Q8A g pl g.length (Kaq _));clear z F I G
  gi_wp2
  refine⟨by simp,.inl ⟨_,_,rfl,run_takeDeferred hK, ?_⟩⟩;refine⟨.slice ov (Q4c (upto (Q2U g pl) g.length)).length cv,by simp[results,Tryz.f47,go_sem],_,rfl, ?_, ?_⟩
  ·have h1:=ownsRow_putObj HE.out.1 (.deferred none) hK rfl
   unfold ownL;rw[<-au.out];exact Q04 h1 (KIq N)
  ·exact ab.out.trans ((HE.out.2.trans (belowK_b (w:=m) (Kaq _) W D _ _ (by omega) hK rfl rfl)).mono (KIq N))
 case stop=>
  rintro D c t W hD ⟨k,hk,rfl⟩ ⟨hF,G⟩ hK;exact hF.elim
end Go.Proofs.YtpneolgdghbinaaGreat
