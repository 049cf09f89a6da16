/- Several texts in one: SPt, SPt2, SPt3, SPl, ShP2, OpenP, ShBal2, SPw, OpenB. -/
import Derived.Deep.MidRow
import Derived.Deep.WholeRow
import Derived.Test.YteffhdcankkfkaaGreatQListed32
namespace Go.Proofs.YteffhdcankkfkaaGreat
open Go.ChangeShapes Go.WideShapes Go.ChangeAt Go.RowKit Go.Joins
set_option linter.unusedVariables false
set_option linter.unusedSimpArgs false
set_option maxRecDepth 100000
set_option maxHeartbeats 40000000
abbrev Ip:=Bool × Int × Int
def QgK:Lay Ip:=⟨3,fun a=> [.bool a.1,.int .i64 a.2.1,.int .i64 a.2.2],(false,0,0),fun _=>rfl⟩
abbrev ipv (a:Ip):Value:=.agg #[.bool a.1,.int .i64 a.2.1,.int .i64 a.2.2]
def QgC (l:List Int):Ip:=if l.length=0 then(false,0,0)else(true,l.getD 0 0,l.getD 1 0)
def Q2r (a:Ip):List Int:=if a.1=true then[a.2.1,a.2.2]else[]
def idB (x:Int):Bool:=decide (0<=x) && decide (x < 6)
def Q0G (l:List Int):Bool:=decide (l.length=0)||(decide (l.length=2) && idB (l.getD 0 0) && idB (l.getD 1 0))
theorem Q4l {l:List Int} (h:Q0G l=true):Q2r (QgC l)=l:=by
 unfold Q0G at h;simp only[Bool.or_eq_true,Bool.and_eq_true,decide_eq_true_eq]at h
 rcases h with h|⟨⟨h,_⟩,_⟩
 ·have e:l=[]:=List.eq_nil_of_length_eq_zero h
  subst e;rfl
 ·match l,h with
  |[a,b],_=>rfl
theorem Qhs (w:World) (x y:Int):Q9o (w.alloc (.cells #[.int .i64 x,.int .i64 y] 3)) w.heap.size (.slice (some ⟨w.heap.size,0,none⟩) 2 2) [x,y]:=
 ⟨by simp[Q0T],.inr ⟨w.heap.size,2,#[.int .i64 x,.int .i64 y],rfl,Kaq _,heap_alloc_new w _,by simp,by unfold maxLen;omega,by simp[Q0T],by simp[Q0T]⟩⟩
theorem Qck (a:Ip) (w:World):
  Calls Tryz.prog 216 #[ipv a] w fun e b=> ∃o c,e=.returned (.slice o (Q2r a).length c)/\Q9o b w.heap.size (.slice o (Q2r a).length c) (Q2r a)/\Below w.heap.size w b:=by
 obtain⟨s,x,y⟩:=a
 cases s with
 |false=>
  go_enter Tryz.func216,Tryz.ntmps216;go_wp2;go_ret;exact⟨none,0,rfl,KLq _ _ _ _,by(repeat (first|with_reducible (first|exact hB|exact KBq|refine KHq ?_|refine below_drewN ?_ _|refine KOq ?_ ?_ _|refine KNq ?_ ?_ _)|(focus (simp;first|done|omega))|omega))⟩
 |true=>
  go_enter Tryz.func216,Tryz.ntmps216;go_wp2;go_ret;have h:=Qhs (w.alloc (.cells #[.bool true,.int .i64 x,.int .i64 y] 264)) x y;rw[World.size_alloc]at h;exact⟨_,_,rfl,Q06 h (Nat.le_succ _),by(repeat (first|with_reducible (first|exact hB|exact KBq|refine KHq ?_|refine below_drewN ?_ _|refine KOq ?_ ?_ _|refine KNq ?_ ?_ _)|(focus (simp;first|done|omega))|omega))⟩
theorem Q6W (x:Int) (w:World):Calls Tryz.prog 62 #[.int .i64 x] w fun e w'=>e=.returned (.bool (idB x))/\w=w':=Q1U x w
theorem Q7t (o:Option Addr) (cap:Nat) (l:List Int) (w:World) (h:RdI w.heap.size w o l) (j:l.length<=1048576):
  Calls Tryz.prog 243 #[.slice o l.length cap] w fun e n=>e=.returned (.tuple #[ipv (if Q0G l=true then QgC l else(false,0,0)),.bool (Q0G l)])/\Below w.heap.size w n:=by
 by_cases h0:l.length=0
 ·have e:l=[]:=List.eq_nil_of_length_eq_zero h0
  subst e;rw[show Q0G []=true from rfl,show QgC []=(false,0,0)from rfl];simp only[if_true];go_enter Tryz.func243,Tryz.ntmps243;go_wp2;refine bodyPost_ret (v:=.tuple #[ipv (false,0,0),.bool true]) (by simp[results,Tryz.results243,go_sem]) rfl ⟨rfl,by(repeat (first|with_reducible (first|exact hB|exact KBq|refine KHq ?_|refine below_drewN ?_ _|refine KOq ?_ ?_ _|refine KNq ?_ ?_ _)|(focus (simp;first|done|omega))|omega))⟩
 ·by_cases h2:l.length=2
  ·match l,h2 with
   |[x,y],_=>
    rcases h with h|⟨b,d,rfl,m,a⟩
    ·cases h
    have p:w.cell? ⟨b,d,none⟩=some (.int .i64 x):=a 0 (by simp) 0 (by decide);have q:w.cell? ⟨b,d+1,none⟩=some (.int .i64 y):=a 1 (by simp) 0 (by decide)
    have c:=fun w=>Q6W x w
    have f:=fun w=>Q6W y w
    have i:Q0G [x,y]=(idB x && idB y):=by simp[Q0G]
    rw[i,show QgC [x,y]=(true,x,y)from rfl];clear a i
    cases h3:idB x with
    |false=>
     rw[h3]at c;try simp only[Bool.false_and,Bool.true_and,Bool.false_eq_true,if_false];go_enter Tryz.func243,Tryz.ntmps243;go_wp2_with (first|(go_at_call 62;refine(c _).mono ?_;rintro e g ⟨rfl,rfl⟩));refine bodyPost_ret (v:=.tuple #[ipv (false,0,0),.bool false]) (by simp[results,Tryz.results243,go_sem]) rfl ⟨rfl,by(repeat (first|with_reducible (first|exact hB|exact KBq|refine KHq ?_|refine below_drewN ?_ _|refine KOq ?_ ?_ _|refine KNq ?_ ?_ _)|(focus (simp;first|done|omega))|omega))⟩
    |true=>
     rw[h3]at c;try simp only[Bool.false_and,Bool.true_and,Bool.false_eq_true,if_false]
     cases h4:idB y with
     |false=>
      rw[h4]at f;simp only[Bool.false_eq_true,if_false,if_true];go_enter Tryz.func243,Tryz.ntmps243;go_wp2_with (first|(go_at_call 62;first|(refine(c _).mono ?_;rintro e g ⟨rfl,rfl⟩)|(refine(f _).mono ?_;rintro e g ⟨rfl,rfl⟩)));refine bodyPost_ret (v:=.tuple #[ipv (false,0,0),.bool false]) (by simp[results,Tryz.results243,go_sem]) rfl ⟨rfl,by(repeat (first|with_reducible (first|exact hB|exact KBq|refine KHq ?_|refine below_drewN ?_ _|refine KOq ?_ ?_ _|refine KNq ?_ ?_ _)|(focus (simp;first|done|omega))|omega))⟩
     |true=>
      rw[h4]at f;simp only[Bool.false_eq_true,if_false,if_true];go_enter Tryz.func243,Tryz.ntmps243;go_wp2_with (first|(go_at_call 62;first|(refine(c _).mono ?_;rintro e g ⟨rfl,rfl⟩)|(refine(f _).mono ?_;rintro e g ⟨rfl,rfl⟩)))
      go_region
      all_goals (go_wp2;refine bodyPost_ret (v:=.tuple #[ipv (true,x,y),.bool true]) (by simp[results,Tryz.results243,go_sem]) rfl ⟨rfl,by(repeat (first|with_reducible (first|exact hB|exact KBq|refine KHq ?_|refine below_drewN ?_ _|refine KOq ?_ ?_ _|refine KNq ?_ ?_ _)|(focus (simp;first|done|omega))|omega))⟩)
  ·rw[show Q0G l=false by simp[Q0G,h0,h2]]
   simp only[Bool.false_eq_true,if_false];have k:((l.length:Int)==2)=false:=beq_eq_false_iff_ne.2 (by omega);go_enter Tryz.func243,Tryz.ntmps243;go_wp2;refine bodyPost_ret (v:=.tuple #[ipv (false,0,0),.bool false]) (by simp[results,Tryz.results243,go_sem]) rfl ⟨rfl,by(repeat (first|with_reducible (first|exact hB|exact KBq|refine KHq ?_|refine below_drewN ?_ _|refine KOq ?_ ?_ _|refine KNq ?_ ?_ _)|(focus (simp;first|done|omega))|omega))⟩
abbrev Pt:=Nat->Ip
def ptL (f:Pt):List Value:=((List.range 8).map f).flatMap QgK.cs
def ptA (f:Pt):Array Value:=(ptL f).toArray
abbrev ptv (f:Pt):Value:=.agg (ptA f)
def ptZ:Pt:=fun _=>(false,0,0)
def upd (f:Pt) (k:Nat) (p:Ip):Pt:=fun i=>if i=k then p else f i
theorem Q3A {B g:Nat} {b w:World} (a:Below B b w) (c:B<=g) (cs:Array Value):Below B b (w.setRow g cs):=⟨a.os,a.tape,a.output,by simpa using a.size,fun k d=>(setRow_other w g k cs (by omega)).trans (a.block k d)⟩
theorem Qbh (f:Pt):(ptL f).length=24:=rfl
theorem Qcl (f:Pt):(ptA f).size=24:=rfl
theorem Qhl (f:Pt) (k:Nat) (p:Ip):((List.range 8).map f).set k p=(List.range 8).map (upd f k p):=by
 apply List.ext_getElem
 ·simp
 ·intro i b h2
  simp at b h2
  by_cases h:k=i
  ·subst h;simp[upd]
  ·have a:¬i=k:=fun e=>h e.symm
   simp[upd,h,a,List.getElem_set]
theorem QhT (f:Pt) (k:Nat) (p:Ip):(((ptL f).set (k * 3) (.bool p.1)).set (k * 3+1) (.int .i64 p.2.1)).set (k * 3+2) (.int .i64 p.2.2)=ptL (upd f k p):=by
 unfold ptL;rw[<-Qhl];exact Q2T QgK rfl rfl _ k
theorem QhP (f:Pt) (k:Nat) (p:Ip):(((ptA f).setIfInBounds (k * 3) (.bool p.1)).setIfInBounds (k * 3+1) (.int .i64 p.2.1)).setIfInBounds (k * 3+2) (.int .i64 p.2.2)=ptA (upd f k p):=by
 unfold ptA;rw[<-QhT];simp
theorem Qbb (f:Pt) (j:Nat) (h:j < 24):∃u,(ptA f)[j]? =some u:=⟨_,Array.getElem?_eq_getElem (by rw[Qcl];exact h)⟩
theorem Qcy (f:Pt) (k:Nat) (h:k < 8):(ptA f).extract (k * 3) (k * 3+3)=#[.bool (f k).1,.int .i64 (f k).2.1,.int .i64 (f k).2.2]:=by
 match k,h with
 |0,_=>rfl
 |1,_=>rfl
 |2,_=>rfl
 |3,_=>rfl
 |4,_=>rfl
 |5,_=>rfl
 |6,_=>rfl
 |7,_=>rfl
 |n+8,h=>exact absurd h (by omega)
theorem QhK (f:Pt):(ptA f).all (·.oneCell')=true:=all_oneCell_toArray (fun v hv=>by
 unfold ptL at hv;simp only[List.mem_flatMap,QgK,List.mem_cons,List.not_mem_nil,or_false]at hv
 obtain⟨a,_,rfl|rfl|rfl⟩:=hv <;> rfl)
theorem ptU:Tryz.prog.underlying 266=some (.array 8 264):=by kernel_rfl
theorem ptI:(Tryz.prog.info? 266).map (·.size)=some 24:=by kernel_rfl
theorem QiC (f:Pt):(Tryz.prog.info? 266).map (·.size)=some (ptA f).size:=ptI
theorem ipI:(Tryz.prog.info? 264).map (·.size)=some 3:=by kernel_rfl
theorem Qhg (w:World):(isAgg 264).run Tryz.prog w=.ok true w:=by
 simp[go_sem]
theorem Qer (w:World):(sizeOf 264).run Tryz.prog w=.ok 3 w:=by
 have h:=ipI
 cases hq:Tryz.prog.info? 264 with
 |none=>simp[hq]at h
 |some i=>
  simp[hq]at h;simp[sizeOf,typeInfo,hq,h]
theorem Q1u {b:Array Oper} {rest:List Oper} {o:Oper} {a:Act} {w:World} {Q:Exit->Act->World->Prop} (c:o.guard=none) (x:Operand) (i:o.op=.load 266 x)
  (g:Nat) (j:a.eval x=.pointer (some ⟨g,0,none⟩)) (f:Pt) (d:w.heap[g]? =some (.cells (ptA f) 266 (0,0)))
  (h:wpList Tryz.prog b Q rest (a.put o.dst (ptv f)) w):wpList Tryz.prog b Q (o::rest) a w:=
 wpList_load_row c _ x i g j _ _ _ _ d ptU rfl (QiC f) h
theorem Q0B {b:Array Oper} {rest:List Oper} {o:Oper} {a:Act} {w:World} {Q:Exit->Act->World->Prop} (c:o.guard=none) (x y:Operand) (j:o.op=.store 266 x y)
  (g:Nat) (f d:Pt) (k:a.eval x=.pointer (some ⟨g,0,none⟩)) (l:a.eval y=ptv f) (i:w.heap[g]? =some (.cells (ptA d) 266 (0,0)))
  (h:wpList Tryz.prog b Q rest (a.put o.dst undef) (w.setRow g (ptA f))):wpList Tryz.prog b Q (o::rest) a w:=
 wpList_store_row c _ x y j g (ptA f) k l _ _ i (QiC f) rfl (QhK f) h
theorem Q6D {b:Array Oper} {rest:List Oper} {o:Oper} {a:Act} {w:World} {Q:Exit->Act->World->Prop} (c:o.guard=none) (x g:Operand) (j:o.op=.index 266 x g)
  (f:Pt) (k:Nat) (i:k < 8) (l:a.eval x=ptv f) (hi:a.eval g=.int .i64 (k:Int))
  (h:wpList Tryz.prog b Q rest (a.put o.dst (ipv (f k))) w):wpList Tryz.prog b Q (o::rest) a w:=
 wpList_plain c fun _ hK=>by
  have d:(k:Int) < 8:=by omega
  unfold Oper.wp execOp;simp only[j,l,hi,Instr.index,asIntOf,Sem.run_bind,Sem.run_pure,Result.andThen_ok,run_underlying ptU,part,Qhg,Qer];simp[d,Qcy f k i,part,Qhg,Qer,Sem.run_bind];exact hK _ _ h
def Q1e (ll:List (List Int)):Bool:=decide (ll.length=8) && (List.range 8).all (fun i=>Q0G (ll.getD i []))
def Q3k (ll:List (List Int)):Pt:=fun i=>QgC (ll.getD i [])
def Qcf (ll:List (List Int)) (k:Nat):Pt:=fun i=>if i < k then QgC (ll.getD i [])else(false,0,0)
def Q41 (f:Pt):List (List Int):=(List.range 8).map (fun i=>Q2r (f i))
theorem Qac {f g:Pt} (h:∀i,i < 8->f i=g i):ptA f=ptA g:=by
 unfold ptA ptL;rw[List.map_congr_left (fun a ha=>h a (by simpa using ha))]
theorem Q12 {w:World} {B b:Nat} (h:b≠B) (j:Nat) (u:Value):(w.setCell ⟨B,j,none⟩ u).heap[b]? =w.heap[b]? :=by
 by_cases hb:b < w.heap.size
 ·exact(Q18 w B j u).block b hb (by simp[h])
 ·have a:w.heap[b]? =none:=Array.getElem?_eq_none (by omega)
  have h2:(w.setCell ⟨B,j,none⟩ u).heap[b]? =none:=Array.getElem?_eq_none (by simp;omega);rw[a,h2]
theorem QcK (ll:List (List Int)):Qcf ll 0=ptZ:=by funext i;simp[Qcf,ptZ]
theorem Qfq (ll:List (List Int)):ptA (Qcf ll 8)=ptA (Q3k ll):=Qac (fun i hi=>by simp[Qcf,Q3k,hi])
theorem Qf1 (a:List (List Int)) (k:Nat):upd (Qcf a k) k (QgC (a.getD k []))=Qcf a (k+1):=by
 funext i
 unfold upd Qcf
 by_cases h:i=k
 ·subst h;simp
 ·by_cases h2:i < k
  ·simp[h,h2,show i < k+1 by omega]
  ·simp[h,h2,show ¬i < k+1 by omega]
theorem QgO {a:List (List Int)} {k:Nat} (b:k < 8) (h:Q0G (a.getD k [])=false):Q1e a=false:=by
 unfold Q1e
 have:(List.range 8).all (fun i=>Q0G (a.getD i []))=false:=by
  rw[List.all_eq_false];exact⟨k,by simpa using b,by rw[h];simp⟩
 rw[this,Bool.and_false]
theorem Q9S {a:List (List Int)} (b:a.length=8) (h:∀i,i < 8->Q0G (a.getD i [])=true):Q1e a=true:=by
 unfold Q1e;rw[decide_eq_true b,Bool.true_and,List.all_eq_true]
 exact fun i hi=>h i (by simpa using hi)
theorem QhA {b:List (List Int)} {k:Nat} (h:∀i,i < k->Q0G (b.getD i [])=true) (c:Q0G (b.getD k [])=true):∀i,i < k+1->Q0G (b.getD i [])=true:=fun i hi=>by
 rcases Nat.lt_succ_iff_lt_or_eq.1 hi with a|a
 ·exact h i a
 ·subst a;exact c
theorem Q51 {b:Func} {p q:Tmp} (h:b.results=#[.cell p 266,.tmp q]) (tmps:Array Value) (w:World) (g:Nat) (f:Pt) (d:tmps.getD p undef=.pointer (some ⟨g,0,none⟩)) (c:w.heap[g]? =some (.cells (ptA f) 266 (0,0))):
  (results b tmps).run Tryz.prog w=.ok (.tuple #[ptv f,tmps.getD q undef]) w:=by
 have a:tmps[p]?.getD undef=.pointer (some ⟨g,0,none⟩):=by simpa using d
 simp[results,h,a,asAddr,run_loadVar_row w g 266 266 (ptA f) (0,0) _ c ptU rfl (QiC f)]
theorem Q2N (o:Option Addr) (cap:Nat) (a:List (List Int)) (w:World) (hR:RdLL w.heap.size w o a) (hl:a.length<=1048576) (hx:∀i,i < a.length->(a.getD i []).length<=1048576):
  Calls Tryz.prog 222 #[.slice o a.length cap] w fun e w'=>e=.returned (.tuple #[ptv (if Q1e a=true then Q3k a else ptZ),.bool (Q1e a)])/\Below w.heap.size w w':=by
 obtain⟨Y,g⟩:∃W,((w.alloc (.cells #[.bool false,.int .i64 0,.int .i64 0,.bool false,.int .i64 0,.int .i64 0,.bool false,.int .i64 0,.int .i64 0,.bool false,.int .i64 0,.int .i64 0,.bool false,.int .i64 0,.int .i64 0,.bool false,.int .i64 0,.int .i64 0,.bool false,.int .i64 0,.int .i64 0,.bool false,.int .i64 0,.int .i64 0] 266)).alloc (.cells #[.bool false,.int .i64 0,.int .i64 0,.bool false,.int .i64 0,.int .i64 0,.bool false,.int .i64 0,.int .i64 0,.bool false,.int .i64 0,.int .i64 0,.bool false,.int .i64 0,.int .i64 0,.bool false,.int .i64 0,.int .i64 0,.bool false,.int .i64 0,.int .i64 0,.bool false,.int .i64 0,.int .i64 0] 266))=W:=⟨_,rfl⟩
 have H:=alb0v0v2 g
 have J:Y.heap[w.heap.size]? =some (.cells (ptA ptZ) 266 (0,0)):=by rw[<-g];exact Q62 w _ _ _
 have L:Y.heap[w.heap.size+1]? =some (.cells (ptA ptZ) 266 (0,0)):=by rw[<-g];exact Q2w w _ _ _
 have aa:Y.heap.size=w.heap.size+1+1:=by rw[<-g];simp
 have r:=Q00 H;have j:=Q00 J;have t:=Q00 L;clear H J L
 by_cases h8:a.length=8
 ·rw[h8]
  have U:=Q00 h8;clear h8 hl;have HR:=Q00 hR;have HX:=Q00 hx;clear hR hx;obtain⟨A,hA⟩:∃A,(.tuple #[ptv (if Q1e a=true then Q3k a else ptZ),.bool (Q1e a)]:Value)=A:=⟨_,rfl⟩;rw[hA];have N:=Q00 hA;clear hA;go_enter Tryz.func222,Tryz.ntmps222;go_wp2
  go_loopw [15] (fun iv wr=> ∃k:Nat,k<=8/\iv=.int .i64 (k:Int)/\Hid (wr.heap[w.heap.size]? =some (.cells (ptA ptZ) 266 (0,0)))/\Hid (wr.heap[w.heap.size+1]? =some (.cells (ptA (Qcf a k)) 266 (0,0)))/\Hid (∀i,i < k->Q0G (a.getD i [])=true)/\Hid (Below w.heap.size w wr))
   (fun iv _=> 8 - (intOf iv).toNat)
  case atStart=>exact⟨0,Kcq _,rfl,j.out,by rw[QcK];exact t.out,fun i hi=>absurd hi (KMq _),r.out⟩
  case round=>
   obtain⟨k,hk,rfl,M,R,C,f⟩:=hrel;clear j t r aa g;have ac:=(KEq R.out)
   by_cases hlt:k < 8
   ·have ad:(k:Int) < 8:=by omega
    obtain⟨b,ag,o',c',rfl,hb,hc,hr⟩:=((HR.out.kept f.out (Kaq _)).le f.out.size).at (Kaq _) k (by rw[U.out];exact hlt);have n:=Q7t o' c' (a.getD k []) wr hr (HX.out k (by rw[U.out];exact hlt));clear hr
    cases hq:Q0G (a.getD k [])with
    |false=>
     rw[hq]at n;simp only[Bool.false_eq_true,if_false]at n
     have u:A=.tuple #[ptv ptZ,.bool false]:=by rw[<-N.out,QgO hlt hq];rfl
     clear hq N;subst u;generalize (a.getD k []).length=q at *;go_wp2_with fail;refine n.mono ?_;rintro e O ⟨rfl,c⟩;have h2:=Q00 ((c.block _ (show w.heap.size < wr.heap.size by omega)).trans M.out);have d:=Q00 (f.out.trans (c.mono f.out.size));have ab:=c.size;clear c n;have H2':Hid ((O.alloc (.cells #[.bool false,.int .i64 0,.int .i64 0] 264)).heap[w.heap.size]? =some (.cells (ptA ptZ) 266 (0,0))):=(Below.heap_alloc _ _ _ (by omega)).trans h2.out
     have h:Hid (Below w.heap.size w (O.alloc (.cells #[.bool false,.int .i64 0,.int .i64 0] 264))):=d.out.alloc d.out.size _;clear d h2;go_wp2_with (first|(refine Q0B rfl (.tmp 2) (.tmp 27) rfl w.heap.size ptZ ptZ rfl rfl H2'.out ?_));refine bodyPost_ret (Q51 rfl _ _ w.heap.size ptZ rfl (setRow_heap _ _ _ _ _ _ H2'.out)) rfl ⟨rfl,Q3A h.out (Kaq _) _⟩
    |true=>
     rw[hq]at n;simp only[if_true]at n;have HQ:=Q00 hq;have X:=Q00 (Qf1 a k);obtain⟨p,I⟩:∃p,QgC (a.getD k [])=p:=⟨_,rfl⟩;rw[I]at n X;clear I hq;obtain⟨s,x,y⟩:=p;generalize (a.getD k []).length=q at *;go_wp2_with fail;refine n.mono ?_;rintro e O ⟨rfl,c⟩;have h2:=Q00 ((c.block _ (show w.heap.size < wr.heap.size by omega)).trans M.out);have h4:=Q00 ((c.block _ ac).trans R.out);have d:=Q00 (f.out.trans (c.mono f.out.size));have ab:=c.size;clear c n;obtain⟨D,m⟩:∃W,O.alloc (.cells #[.bool s,.int .i64 x,.int .i64 y] 264)=W:=⟨_,rfl⟩
     have E:D.heap[w.heap.size]? =some (.cells (ptA ptZ) 266 (0,0)):=by rw[<-m];exact(Below.heap_alloc _ _ _ (by omega)).trans h2.out
     have l:D.heap[w.heap.size+1]? =some (.cells (ptA (Qcf a k)) 266 (0,0)):=by rw[<-m];exact(Below.heap_alloc _ _ _ (by omega)).trans h4.out
     obtain⟨u0,u1,u2⟩:=alc3v0v1 m
     have h:Hid (Below w.heap.size w D):=by rw[<-m];exact d.out.alloc d.out.size _
     obtain⟨q0,e0⟩:=Qbb (Qcf a k) (k * 3) (by omega);obtain⟨q1,e1⟩:=Qbb (Qcf a k) (k * 3+1) (by omega);obtain⟨q2,e2⟩:=Qbb (Qcf a k) (k * 3+2) (by omega);have a0:D.cell? ⟨w.heap.size+1,k * 3,none⟩=some q0:=Q02 l _ _ e0;have g0:=Q04 l (k * 3);have F:=Q0p l (k * 3) (.bool s);obtain⟨W2,v⟩:∃W,D.setCell ⟨w.heap.size+1,k * 3,none⟩ (.bool s)=W:=⟨_,rfl⟩;rw[v]at F;have a1:W2.cell? ⟨w.heap.size+1,k * 3+1,none⟩=some q1:=Q02 F _ _ (by rw[Array.getElem?_setIfInBounds_ne (by omega)];exact e1);have g1:=Q04 F (k * 3+1);have G:=Q0p F (k * 3+1) (.int .i64 x)
     obtain⟨W3,z⟩:∃W,W2.setCell ⟨w.heap.size+1,k * 3+1,none⟩ (.int .i64 x)=W:=⟨_,rfl⟩;rw[z]at G;have a2:W3.cell? ⟨w.heap.size+1,k * 3+2,none⟩=some q2:=Q02 G _ _ (by rw[Array.getElem?_setIfInBounds_ne (by omega),Array.getElem?_setIfInBounds_ne (by omega)];exact e2);have g2:=Q04 G (k * 3+2);have h7:=Q0p G (k * 3+2) (.int .i64 y);obtain⟨Z,B⟩:∃W,W3.setCell ⟨w.heap.size+1,k * 3+2,none⟩ (.int .i64 y)=W:=⟨_,rfl⟩;rw[B]at h7
     have T:Hid (Z.heap[w.heap.size+1]? =some (.cells (ptA (Qcf a (k+1))) 266 (0,0))):=by rw[<-X.out,<-QhP];exact h7
     have P:Hid (Z.heap[w.heap.size]? =some (.cells (ptA ptZ) 266 (0,0))):=by
      rw[<-B,<-z,<-v];exact(Q12 (by omega) _ _).trans ((Q12 (by omega) _ _).trans ((Q12 (by omega) _ _).trans E))
     have V:Hid (Below w.heap.size w Z):=by
      rw[<-B,<-z,<-v];exact((h.out.setCell (p:=⟨w.heap.size+1,k * 3,none⟩) (Nat.le_succ _) _).setCell (p:=⟨w.heap.size+1,k * 3+1,none⟩) (Nat.le_succ _) _).setCell (p:=⟨w.heap.size+1,k * 3+2,none⟩) (Nat.le_succ _) _
     clear F G h7 l E e0 e1 e2 h2 h4 d h X;go_wp2;go_roundw
     case rel=>exact⟨k+1,by omega,by go_num,P.out,T.out,(QhA C.out HQ.out),V.out⟩
     case measure=>simp[intOf];omega
   ·have e:k=8:=by omega
    subst e
    have u:A=.tuple #[ptv (Qcf a 8),.bool true]:=by rw[<-N.out,Q9S U.out C.out,if_pos rfl];unfold ptv;rw[Qfq]
    clear N;subst u;go_wp2_with (first|(refine Q1u rfl (.tmp 4) rfl (w.heap.size+1) rfl _ R.out ?_)|(refine Q0B rfl (.tmp 2) (.tmp 32) rfl w.heap.size _ ptZ rfl rfl M.out ?_));refine bodyPost_ret (Q51 rfl _ _ w.heap.size _ rfl (setRow_heap _ _ _ _ _ _ M.out)) rfl ⟨rfl,Q3A f.out (Kaq _) _⟩
 ·rw[show Q1e a=false by unfold Q1e;rw[decide_eq_false h8,Bool.false_and]]
  simp only[Bool.false_eq_true,if_false];have ae:((a.length:Int)==8)=false:=beq_eq_false_iff_ne.2 (by omega)
  have af:¬((a.length:Int)=8):=by omega
  go_enter Tryz.func222,Tryz.ntmps222;go_wp2_with (first|(refine Q1u rfl (.tmp 4) rfl (w.heap.size+1) rfl _ t.out ?_)|(refine Q0B rfl (.tmp 2) (.tmp 12) rfl w.heap.size _ ptZ rfl rfl j.out ?_));refine bodyPost_ret (Q51 rfl _ _ w.heap.size _ rfl (setRow_heap _ _ _ _ _ _ j.out)) rfl ⟨rfl,Q3A r.out (Kaq _) _⟩
theorem Q4v (f:Pt):(Q41 f).length=8:=by simp[Q41]
theorem QeN (f:Pt) (k:Nat) (h:k < 8):(Q41 f).take (k+1)=(Q41 f).take k++[Q2r (f k)]:=by
 have hk:k < (Q41 f).length:=by rw[Q4v];exact h
 rw[List.take_succ_eq_append_getElem hk];simp[Q41]
theorem Qg2 (f:Pt):(Q41 f).take 8=Q41 f:=List.take_of_length_le (by rw[Q4v];exact Kaq _)
theorem Q0x (w:World) (B j:Nat) (u:Value):Stp B (B+1) w (w.setCell ⟨B,j,none⟩ u):=Stp.grown (Q18 w B j u) (fun b e=>by injection e with e;omega)
theorem Q9x (f:Pt) (w:World):
  Calls Tryz.prog 183 #[ptv f] w fun e w'=> ∃v,e=.returned v/\InT w.heap.size w'.heap.size w' v (Q41 f)/\Below w.heap.size w w':=by
 obtain⟨i0,hi,ai,aj,ak⟩:=info_parts Q63;obtain⟨a,C⟩:∃W,(w.alloc (.cells (ptA f) 266))=W:=⟨_,rfl⟩;have U:=alb0v0v1 C
 have z0:a.heap[w.heap.size]? =some (.cells (ptA f) 266 (0,0)):=by rw[<-C];exact World.alloc_heap_new w _
 have F:a.heap.size=w.heap.size+1:=by rw[<-C];simp
 have HZ:=Q00 z0;have A:=Q00 U;have z:=Q00 F;clear z0 U F;go_enter Tryz.func183,Tryz.ntmps183;go_wp2_with (first|(at_make;refine wpList_make_full _ rfl _ _ 206 rfl a.heap.size 22 i0 (.slice none 0 0) 1 Tryz.underlying206 hi ai aj _ _ _ _ 8 rfl rfl rfl rfl ?b2 ?b3 ?b4 ?_))
 case b2=>rw[ak];omega
 case b3=>unfold maxLen;omega
 case b4=>simp
 intro w3 n l;have D:Below a.heap.size a w3:=KBq.grown l (Kaq _) (fun k h=>by cases h)
 have X:w3.ownsRow (w.heap.size+1) 22 1 (.slice (some ⟨a.heap.size,0,none⟩) 8 8) 8 ((([]:List Hd)++List.replicate (8 - 0) Q0q.d).flatMap Q0q.cs):=by
  rw[List.nil_append,Nat.sub_zero,<-Q11 Q0q (.slice none 0 0) rfl,show Q0q.k=1 from rfl,Nat.mul_one];exact Q06 n (by have:=z.out;omega)
 have R:=Q00 ((D.block w.heap.size (by have:=z.out;omega)).trans HZ.out);have N:=Q00 (A.out.trans (D.mono A.out.size));have Y:a.heap.size+1<=w3.heap.size:=(n.lt a.heap.size rfl).2;have O:=Q00 X;clear n l D X HZ A;go_wp2_with (first|(refine Q1u rfl (.tmp 1) rfl w.heap.size rfl f R.out ?_))
 go_loopw [8] (fun iv wr=> ∃(k:Nat) (hs:List Hd) (L H:Nat->Nat),k<=8/\iv=.int .i64 (k:Int)/\Hid (wr.ownsRow (w.heap.size+1) 22 1 (.slice (some ⟨a.heap.size,0,none⟩) 8 8) 8 ((hs++List.replicate (8 - k) Q0q.d).flatMap Q0q.cs))/\Hid (Rw InI [] ((Q41 f).take k) (a.heap.size+1) wr.heap.size wr hs L H)/\Hid (Below w.heap.size w wr)/\a.heap.size+1<=wr.heap.size)
  (fun iv _=> 8 - (intOf iv).toNat)
 case atStart=>exact⟨0,[],fun _=> 0,fun _=> 0,Kcq _,rfl,O.out,by rw[List.take_zero];exact Rw.nil _ _ _ _ _ _ _,N.out,Y⟩
 case round=>
  obtain⟨k,hs,L,H,am,rfl,HO,HR,r,an⟩:=hrel;clear O R N Y
  have E:hs.length=k:=by have h1:=HR.out.len;rw[List.length_take,Q4v]at h1;omega
  by_cases hlt:k < 8
  ·have z1:(k:Int) < 8:=by omega
   have HS:=Q00 (QeN f k hlt);obtain⟨p,hp⟩:∃p,f k=p:=⟨_,rfl⟩;have HP:=Q00 hp;rw[hp]at HS;clear hp;obtain⟨s,x,y⟩:=p;obtain⟨W1,T⟩:∃W,wr.alloc (.cells #[.bool s,.int .i64 x,.int .i64 y] 264)=W:=⟨_,rfl⟩;have j:=alb0v0v1 T;obtain⟨u0,u1,u2⟩:=alc3v0v1 T;have HL:=Q00 (Qck (s,x,y) W1);have ab:=Q00 (Q0a HO.out j);have ad:=Q00 (HR.out.kept InI.stp j);have M:=Q00 (r.out.trans (j.mono r.out.size));have ag:=j.size;clear j HO HR r;go_wp2_with (first|(refine Q6D rfl (.tmp 7) (.tmp 8) rfl f k hlt rfl rfl ?_;rw[HP.out])|fail);refine HL.out.mono ?_
   rintro e J ⟨I,G,rfl,Z,g⟩;have B:=Q00 (Q0a ab.out g)
   have af:((hs++List.replicate (8 - k) Q0q.d).flatMap Q0q.cs).length=8:=by rw[Q0f,List.length_append,List.length_replicate,E,show Q0q.k=1 from rfl];omega
   have V:=B.out.cellAt k (by omega);have al:=B.out.frozenAt k;obtain⟨u,hu⟩:∃u,J.cell? ⟨a.heap.size,k,none⟩=some u:=⟨_,V.trans (KGq (by omega))⟩;have ac:=Q00 (Q7X (o:=I) (m:=(Q2r (s,x,y)).length) (c:=G) hlt E B.out);have t:=(ad.out.kept InI.stp g).snoc (l2:=W1.heap.size) (h2:=J.heap.size) ag (by omega) g.size (x:=Q2r (s,x,y)) (o:=I) (m:=(Q2r (s,x,y)).length) (c:=G) (InRow.of Z);rw[<-HS.out]at t;have P:=t.step InI.stp (Q0x J a.heap.size k (.slice I (Q2r (s,x,y)).length G)) (fun i hi=> .inl (t.bd i hi).1)
   have ae:Hid (Rw InI [] ((Q41 f).take (k+1)) (a.heap.size+1) (J.setCell ⟨a.heap.size,k,none⟩ (.slice I (Q2r (s,x,y)).length G)).heap.size (J.setCell ⟨a.heap.size,k,none⟩ (.slice I (Q2r (s,x,y)).length G)) _ _ _):=P.mono (Kaq _) (by simp);have aa:=Q00 ((M.out.trans (g.mono M.out.size)).setCell (p:=⟨a.heap.size,k,none⟩) (show w.heap.size<=a.heap.size by have:=z.out;omega) (.slice I (Q2r (s,x,y)).length G))
   have ah:a.heap.size+1<=J.heap.size:=by have:=g.size;omega
   clear Z g V t P af HL;generalize (Q2r (s,x,y)).length=q at *;go_wp2;go_roundw
   case rel=>exact⟨k+1,_,_,_,by omega,by go_num,ac.out,ae.out,aa.out,by simpa using ah⟩
   case measure=>simp[intOf];omega
  ·have e:k=8:=by omega
   subst e;go_wp2;go_ret;have h1:=HO.out;rw[Nat.sub_self,List.replicate_zero,List.append_nil]at h1;have h2:=HR.out;rw[Qg2]at h2;have F:=z.out
   have h3:∀b,(Value.slice (some ⟨a.heap.size,0,none⟩) 8 8).ownBlock=some b->b=a.heap.size:=fun b e=>(Option.some.inj e).symm
   have h4:InT w.heap.size wr.heap.size wr (.slice (some ⟨a.heap.size,0,none⟩) 8 8) (Q41 f):=by
    refine⟨hs,L,H,⟨Q06 (base:=w.heap.size+1) (by rw[E];exact h1) (Nat.le_succ _),fun b e=>?_⟩,h2.mono (by omega) (Kaq _),fun i hi b e=>?_⟩
    ·have:=h3 b e;omega
    ·have:=h3 b e
     have:=h2.bd i hi;omega
   exact⟨_,rfl,h4,r.out⟩
theorem Qe9 {W:World} {B:Nat} {x y z:Value} {T:TypeId} (h:W.heap[B]? =some (.cells #[x,y,z] T (0,0))):W.cell? ⟨B,0,none⟩=some x/\W.cell? ⟨B,1,none⟩=some y/\W.cell? ⟨B,2,none⟩=some z/\W.frozen? ⟨B,0,none⟩=false/\W.frozen? ⟨B,1,none⟩=false/\W.frozen? ⟨B,2,none⟩=false:=
 ⟨Q02 h 0 _ rfl,Q02 h 1 _ rfl,Q02 h 2 _ rfl,Q04 h 0,Q04 h 1,Q04 h 2⟩
theorem QaT {C:Nat} {w W:World} {B:Nat} (h:Below C w W) (hB:C<=B) (x y z:Value):Below C w (setP W B x y z):=((h.setCell (p:=⟨B,0,none⟩) hB _).setCell (p:=⟨B,1,none⟩) hB _).setCell (p:=⟨B,2,none⟩) hB _
theorem Qd0 (W:World) (B:Nat) (x y z:Value):(setP W B x y z).heap.size=W.heap.size:=by simp[World.setCell]
theorem Qgy (W:World) (B:Nat) (x y z:Value):Stp B (B+1) W (setP W B x y z):=((Q0x W B 0 x).trans (Q0x _ B 1 y)).trans (Q0x _ B 2 z)
theorem QfB {lo a hi:Nat} {w:World} {v:Value} {m:Pm} (h:InPm lo hi w v m) (d:a<=lo):InPm a hi w v m:=by
 obtain⟨g,i,b,e,j,f,c,h2⟩:=h;exact⟨g,i,b,e,by omega,f,InRow.mono c d (Kaq _),h2⟩
theorem Q67 (w:World) (c:Array Value) (T:TypeId) (a b:Obj):(((w.alloc a).alloc b).alloc (.cells c T)).heap[w.heap.size+1+1]? =some (.cells c T (0,0)):=by
 have h:=World.alloc_heap_new ((w.alloc a).alloc b) (.cells c T);rw[World.size_alloc,World.size_alloc]at h;exact h
theorem Q8q (w:World) (c:Array Value) (T:TypeId) (a b:Obj):(((w.alloc a).alloc (.cells c T)).alloc b).heap[w.heap.size+1]? =some (.cells c T (0,0)):=by
 have h:=Q2w w c T a;exact(Below.heap_alloc _ _ _ (by simp)).trans h
theorem Q81 {T:TypeId} {wr:World} {base g:Nat} {hs:List Hd} {k n:Nat} {o:Option Addr} {m c:Nat} (j:k < n) (i:hs.length=k) (h:wr.ownsRow base T 1 (.slice (some ⟨g,0,none⟩) n n) n ((hs++List.replicate (n - k) Q0q.d).flatMap Q0q.cs)):
  (wr.setCell ⟨g,k,none⟩ (.slice o m c)).ownsRow base T 1 (.slice (some ⟨g,0,none⟩) n n) n (((hs++[(o,m,c)])++List.replicate (n - (k+1)) Q0q.d).flatMap Q0q.cs):=by
 have b:=(h.stored k (.slice o m c)).1;rw[Q3s Q0q rfl (a:=(o,m,c)) rfl]at b
 have f:n - k=(n - (k+1))+1:=by omega
 rw[f,List.replicate_succ,List.set_append_right _ _ (by omega),i,Nat.sub_self,List.set_cons_zero]at b;rw[List.append_assoc];exact b
theorem RiT.at {a C:Nat} {w:World} {o:Option Addr} {n c:Nat} {f:List (List Int)} (h:RiT a C w (.slice o n c) f) (v:C<=w.heap.size) (i:Nat) (hi:i < f.length):∃b d g j,o=some ⟨b,d,none⟩/\b < C/\w.cell? ⟨b,d+i,none⟩=some (.slice g (f.getD i []).length j)/\RdI C w g (f.getD i []):=by
 obtain⟨hs,m,p,h2⟩:=h;obtain⟨x,u,e,r⟩:=p.open;injection e with e1 e2 e3;subst e1
 rcases r with r|⟨b,d,s,q,r⟩
 ·subst r;simp at m;omega
 ·obtain⟨g,j,k,t⟩:=(h2 i hi).open
  have l:=RdL.head r i (by omega);unfold hv at k;rw[k]at l;exact⟨b,d,g,j,s,q,l,t⟩
theorem QcU (v:Value) (xs:List (List Int)) (w:World) (Z:RiT 0 w.heap.size w v xs) (I:xs.length<=1048576) (hx:∀i,i < xs.length->(xs.getD i []).length<=1048576):
  Calls Tryz.prog 198 #[v] w fun e w'=> ∃v',e=.returned v'/\InT w.heap.size w'.heap.size w' v' xs/\Below w.heap.size w w':=by
 obtain⟨o,cap,ev⟩:∃o c,v=.slice o xs.length c:=by
  obtain⟨hs,h0,⟨o,c,e,_⟩,_⟩:=Z;exact⟨o,c,by rw[e,h0]⟩
 subst ev;obtain⟨i0,hi,af,ag,ah⟩:=info_parts Q63;have V:=Q00 Z;clear Z;go_enter Tryz.func198,Tryz.ntmps198;go_wp2_with (at_make;refine wpList_make_full _ rfl _ _ 206 rfl w.heap.size 22 i0 (.slice none 0 0) 1 Tryz.underlying206 hi af ag _ _ _ _ xs.length rfl rfl rfl rfl ?b2 ?b3 ?b4 ?_)
 case b2=>rw[ah];omega
 case b3=>unfold maxLen;omega
 case b4=>simp
 intro w3 j g;have B:=Q00 (show Below w.heap.size w w3 from KBq.grown g (Kaq _) (fun k h=>by cases h))
 have D:Hid (w3.ownsRow w.heap.size 22 1 (.slice (some ⟨w.heap.size,0,none⟩) xs.length xs.length) xs.length ((([]:List Hd)++List.replicate (xs.length - 0) Q0q.d).flatMap Q0q.cs)):=by
  rw[List.nil_append,Nat.sub_zero,<-Q11 Q0q (.slice none 0 0) rfl,show Q0q.k=1 from rfl,Nat.mul_one];exact j
 have M:w.heap.size+1<=w3.heap.size:=(j.lt w.heap.size rfl).2;clear j g;go_wp2
 go_loopw [4] (fun iv wr=> ∃(k:Nat) (hs:List Hd) (L H:Nat->Nat),k<=xs.length/\iv=.int .i64 (k:Int)/\Hid (wr.ownsRow w.heap.size 22 1 (.slice (some ⟨w.heap.size,0,none⟩) xs.length xs.length) xs.length ((hs++List.replicate (xs.length - k) Q0q.d).flatMap Q0q.cs))/\Hid (Rw InI [] (xs.take k) (w.heap.size+1) wr.heap.size wr hs L H)/\Hid (Below w.heap.size w wr)/\w.heap.size+1<=wr.heap.size)
  (fun iv _=>xs.length - (intOf iv).toNat)
 case atStart=>exact⟨0,[],fun _=> 0,fun _=> 0,Kcq _,rfl,D.out,by rw[List.take_zero];exact Rw.nil _ _ _ _ _ _ _,B.out,M⟩
 case round=>
  obtain⟨k,hs,L,H,ak,rfl,HO,U,a,al⟩:=hrel;clear D B M
  have y:hs.length=k:=by have O:=U.out.len;rw[List.length_take]at O;omega
  by_cases hlt:k < xs.length
  ·have z1:(k:Int) < (xs.length:Int):=by omega
   have HS:=Q00 (show xs.take (k+1)=xs.take k++[xs.getD k []]by rw[List.take_succ_eq_append_getElem hlt];simp[hlt]);obtain⟨b,am,o',c',rfl,aa,F,J⟩:=V.out.at (Kaq _) k hlt;have hc:=bC a.out F aa
   have ai:b < wr.heap.size:=by omega
   have N:=Q00 (Qdr o' c' (xs.getD k []) wr ((J.kept a.out (Kaq _)).le a.out.size) (hx k hlt));have Y:=Q00 I;clear F J;have C:=Q00 y;have ae:=Y.out;clear ae;obtain⟨row,n⟩:∃r,xs.getD k []=r:=⟨_,rfl⟩;rw[n]at N hc HS;clear n;obtain⟨q,hq⟩:∃q,row.length=q:=⟨_,rfl⟩;rw[hq]at N hc;have HQ:=Q00 hq;clear hq;go_wp2_with fail;refine N.out.mono ?_;rintro e s ⟨g4,rfl,A,f⟩;obtain⟨z,ac⟩:∃o:Option Addr,some ⟨g4,0,none⟩=o:=⟨_,rfl⟩;rw[ac]at A ⊢;have R:Hid (InI wr.heap.size s.heap.size s (.slice z q q) row):=InRow.of A;clear A
   have t:=Q00 (Q0a HO.out f)
   have ab:((hs++List.replicate (xs.length - k) Q0q.d).flatMap Q0q.cs).length=xs.length:=by rw[Q0f,List.length_append,List.length_replicate,C.out,show Q0q.k=1 from rfl];omega
   have G:=t.out.cellAt k (by omega);have aj:=t.out.frozenAt k;obtain⟨u,hu⟩:∃u,s.cell? ⟨w.heap.size,k,none⟩=some u:=⟨_,G.trans (KGq (by omega))⟩;have T:=Q00 (Q81 (o:=z) (m:=q) (c:=q) hlt C.out t.out);have l:=(U.out.kept InI.stp f).snoc (l2:=wr.heap.size) (h2:=s.heap.size) (Kaq _) (by omega) f.size (x:=row) (o:=z) (m:=q) (c:=q) R.out;rw[<-HS.out]at l;have E:=l.step InI.stp (Q0x s w.heap.size k (.slice z q q)) (fun i hi=> .inl (l.bd i hi).1)
   have X:Hid (Rw InI [] (xs.take (k+1)) (w.heap.size+1) (s.setCell ⟨w.heap.size,k,none⟩ (.slice z q q)).heap.size (s.setCell ⟨w.heap.size,k,none⟩ (.slice z q q)) _ _ _):=E.mono (Kaq _) (by simp);have P:=Q00 ((a.out.trans (f.mono a.out.size)).setCell (p:=⟨w.heap.size,k,none⟩) (Kaq _) (.slice z q q))
   have ad:w.heap.size+1<=s.heap.size:=by have:=f.size;omega
   clear f G l E ab N y hc;go_wp2;go_roundw
   case rel=>exact⟨k+1,_,_,_,by omega,by go_num,T.out,X.out,P.out,by simpa using ad⟩
   case measure=>simp[intOf];omega
  ·have e:k=xs.length:=by omega
   subst e;go_wp2;go_ret;have O:=HO.out;rw[Nat.sub_self,List.replicate_zero,List.append_nil]at O;have h2:=U.out;rw[List.take_length]at h2
   have h3:∀b,(Value.slice (some ⟨w.heap.size,0,none⟩) xs.length xs.length).ownBlock=some b->b=w.heap.size:=fun b e=>(Option.some.inj e).symm
   have h4:InT w.heap.size wr.heap.size wr (.slice (some ⟨w.heap.size,0,none⟩) xs.length xs.length) xs:=by
    refine⟨hs,L,H,⟨by rw[y];exact O,fun b e=>?_⟩,h2.mono (by omega) (Kaq _),fun i hi b e=>?_⟩
    ·have:=h3 b e;omega
    ·have:=h3 b e
     have:=h2.bd i hi;omega
   exact⟨_,rfl,h4,a.out⟩
theorem Qbo (v:Value) (xs:List (List (List Int))) (w:World) (hR:RiR 0 w.heap.size w v xs) (M:xs.length<=1048576) (hx:∀i,i < xs.length->(xs.getD i []).length<=1048576) (hy:∀i,i < xs.length->∀j,j < (xs.getD i []).length->((xs.getD i []).getD j []).length<=1048576):
  Calls Tryz.prog 156 #[v] w fun e w'=> ∃v',e=.returned v'/\InR w.heap.size w'.heap.size w' v' xs/\Below w.heap.size w w':=by
 obtain⟨o,cap,ev⟩:∃o c,v=.slice o xs.length c:=by
  obtain⟨hs,h0,⟨o,c,e,_⟩,_⟩:=hR;exact⟨o,c,by rw[e,h0]⟩
 subst ev;obtain⟨i0,hi,ae,af,ag⟩:=info_parts Qan;have Y:=Q00 hR;clear hR;go_enter Tryz.func156,Tryz.ntmps156;go_wp2_with (at_make;refine wpList_make_full _ rfl _ _ 27 rfl w.heap.size 206 i0 (.slice none 0 0) 1 Tryz.underlying27 hi ae af _ _ _ _ xs.length rfl rfl rfl rfl ?b2 ?b3 ?b4 ?_)
 case b2=>rw[ag];omega
 case b3=>unfold maxLen;omega
 case b4=>simp
 intro w3 l g;have D:=Q00 (show Below w.heap.size w w3 from KBq.grown g (Kaq _) (fun k h=>by cases h))
 have F:Hid (w3.ownsRow w.heap.size 206 1 (.slice (some ⟨w.heap.size,0,none⟩) xs.length xs.length) xs.length ((([]:List Hd)++List.replicate (xs.length - 0) Q0q.d).flatMap Q0q.cs)):=by
  rw[List.nil_append,Nat.sub_zero,<-Q11 Q0q (.slice none 0 0) rfl,show Q0q.k=1 from rfl,Nat.mul_one];exact l
 have O:w.heap.size+1<=w3.heap.size:=(l.lt w.heap.size rfl).2;clear l g;go_wp2
 go_loopw [4] (fun iv wr=> ∃(k:Nat) (hs:List Hd) (L H:Nat->Nat),k<=xs.length/\iv=.int .i64 (k:Int)/\Hid (wr.ownsRow w.heap.size 206 1 (.slice (some ⟨w.heap.size,0,none⟩) xs.length xs.length) xs.length ((hs++List.replicate (xs.length - k) Q0q.d).flatMap Q0q.cs))/\Hid (Rw InT [] (xs.take k) (w.heap.size+1) wr.heap.size wr hs L H)/\Hid (Below w.heap.size w wr)/\w.heap.size+1<=wr.heap.size)
  (fun iv _=>xs.length - (intOf iv).toNat)
 case atStart=>exact⟨0,[],fun _=> 0,fun _=> 0,Kcq _,rfl,F.out,by rw[List.take_zero];exact Rw.nil _ _ _ _ _ _ _,D.out,O⟩
 case round=>
  obtain⟨k,hs,L,H,aj,rfl,HO,X,a,ak⟩:=hrel;clear F D O
  have y:hs.length=k:=by have R:=X.out.len;rw[List.length_take]at R;omega
  by_cases hlt:k < xs.length
  ·have z1:(k:Int) < (xs.length:Int):=by omega
   have HS:=Q00 (show xs.take (k+1)=xs.take k++[xs.getD k []]by rw[List.take_succ_eq_append_getElem hlt];simp[hlt]);obtain⟨b,al,o',c',rfl,ah,I,N⟩:=(RiR.mon.go (RiR.stp.go Y.out (lo:=w.heap.size) (hi:=w.heap.size+wr.heap.size) ⟨a.out.os,a.out.tape,a.out.output,a.out.size,fun k hk _=>a.out.block k hk⟩ (.inr (Kaq _))) (Kaq _) a.out.size).at (Kaq _) k hlt;have hc:=I;have P:=Q00 (QcU (.slice o' (xs.getD k []).length c') (xs.getD k []) wr (RiT.of N) (hx k hlt) (hy k hlt));have aa:=Q00 M;clear I N;have E:=Q00 y;have ad:=aa.out;clear ad
   obtain⟨row,s⟩:∃r,xs.getD k []=r:=⟨_,rfl⟩;rw[s]at P hc HS;clear s;obtain⟨q,hq⟩:∃q,row.length=q:=⟨_,rfl⟩;rw[hq]at P hc;have HQ:=Q00 hq;clear hq;go_wp2_with fail;refine P.out.mono ?_;rintro e C ⟨v4,rfl,z,f⟩;obtain⟨B,A,e4,_⟩:=RiT.rd (InT.ri z);rw[HQ.out]at e4;subst e4;have U:=Q00 z;clear z;have t:=Q00 (Q0a HO.out f)
   have ab:((hs++List.replicate (xs.length - k) Q0q.d).flatMap Q0q.cs).length=xs.length:=by rw[Q0f,List.length_append,List.length_replicate,E.out,show Q0q.k=1 from rfl];omega
   have J:=t.out.cellAt k (by omega);have ai:=t.out.frozenAt k;obtain⟨u,hu⟩:∃u,C.cell? ⟨w.heap.size,k,none⟩=some u:=⟨_,J.trans (KGq (by omega))⟩;have V:=Q00 (Q81 (o:=B) (m:=q) (c:=A) hlt E.out t.out);have n:=(X.out.kept InT.stp f).snoc (l2:=wr.heap.size) (h2:=C.heap.size) (Kaq _) (by omega) f.size (x:=row) (o:=B) (m:=q) (c:=A) U.out;rw[<-HS.out]at n;have G:=n.step InT.stp (Q0x C w.heap.size k (.slice B q A)) (fun i hi=> .inl (n.bd i hi).1)
   have Z:Hid (Rw InT [] (xs.take (k+1)) (w.heap.size+1) (C.setCell ⟨w.heap.size,k,none⟩ (.slice B q A)).heap.size (C.setCell ⟨w.heap.size,k,none⟩ (.slice B q A)) _ _ _):=G.mono (Kaq _) (by simp);have T:=Q00 ((a.out.trans (f.mono a.out.size)).setCell (p:=⟨w.heap.size,k,none⟩) (Kaq _) (.slice B q A))
   have ac:w.heap.size+1<=C.heap.size:=by have:=f.size;omega
   clear f J n G ab P y hc;go_wp2;go_roundw
   case rel=>exact⟨k+1,_,_,_,by omega,by go_num,V.out,Z.out,T.out,by simpa using ac⟩
   case measure=>simp[intOf];omega
  ·have e:k=xs.length:=by omega
   subst e;go_wp2;go_ret;have R:=HO.out;rw[Nat.sub_self,List.replicate_zero,List.append_nil]at R;have h2:=X.out;rw[List.take_length]at h2
   have h3:∀b,(Value.slice (some ⟨w.heap.size,0,none⟩) xs.length xs.length).ownBlock=some b->b=w.heap.size:=fun b e=>(Option.some.inj e).symm
   have h4:InR w.heap.size wr.heap.size wr (.slice (some ⟨w.heap.size,0,none⟩) xs.length xs.length) xs:=by
    refine⟨hs,L,H,⟨by rw[y];exact R,fun b e=>?_⟩,h2.mono (by omega) (Kaq _),fun i hi b e=>?_⟩
    ·have:=h3 b e;omega
    ·have:=h3 b e
     have:=h2.bd i hi;omega
   exact⟨_,rfl,h4,a.out⟩
theorem Q84 (a:List (List Int)) (n:Int):∀k,Q2p a n k=n - (a.length:Int) - (Q0K (Q7e a) k:Int)
 |0=>by simp[Q2p,Q0K]
 |k+1=>by
  rw[Q2p,Q84 a n k,show Q0K (Q7e a) (k+1)=Q0K (Q7e a) k+(a.getD k []).length from rfl];omega
theorem Q9U (v:Value) (a:List (List (List Int))) (n:Int) (w:World) (D:RiR 0 w.heap.size w v a) (Z:a.length<=maxLen) (R:∀i,i < a.length->(a.getD i []).length<=maxLen) (T:∀i,i < a.length->∀j,j < (a.getD i []).length->((a.getD i []).getD j []).length<=maxLen) (M:0<=n) (h1:n<=1048576):
  Calls Tryz.prog 151 #[v,.int .i64 n] w fun e w'=>(e=.returned (.int .i64 (-1))\/∃z:Int,e=.returned (.int .i64 z)/\0<=z/\z<=n/\(a.length:Int)+(szR a:Int)<=n/\∀i,i < a.length->((a.getD i []).length:Int)<=n)/\Below w.heap.size w w':=by
 obtain⟨o,cap,Y⟩:∃o c,v=.slice o a.length c:=by
  obtain⟨hs,M,⟨o,c,e,_⟩,_⟩:=D;exact⟨o,c,by rw[e,M]⟩
 subst Y;have I:=Z;unfold maxLen at I
 by_cases h:n - a.length < 0
 ·go_enter Tryz.func151,Tryz.ntmps151
  go_wp2;go_ret;exact⟨.inl rfl,KBq⟩
 ·go_enter Tryz.func151,Tryz.ntmps151
  go_wp2
  go_loopw [1,5] (fun n' i wr=> ∃(k:Nat) (z:Int),k<=a.length/\i=.int .i64 (k:Int)/\n'=.int .i64 z/\0<=z/\z<=n - (a.length:Int) - (Q0K (Q4h a) k:Int)/\Hid (∀i,i < k->((a.getD i []).length:Int)<=n)/\Hid (Below w.heap.size w wr))
   (fun _ i _=>a.length - (intOf i).toNat)
  case atStart=>exact⟨0,n - a.length,Kcq _,rfl,rfl,by omega,by simp[Q0K],fun i hi=>absurd hi (KMq _),KBq⟩
  case round=>
   obtain⟨k,z,hk,rfl,rfl,B,C,u,d⟩:=hrel
   by_cases hlt:k < a.length
   ·obtain⟨b,ab,o',X,rfl,hb,O,P⟩:=(RiR.mon.go (RiR.stp.go D (Stp.of (lo:=0) (hi:=0) d.out) (.inl (Kcq _))) (Kaq _) d.out.size).at (Kaq _) k hlt
    have aa:(0:Int)<=(Q0K (Q4h a) k:Int):=by omega
    have G:=Q00 (QbQ o' (a.getD k []) X z wr P (R k hlt) (T k hlt) B (by omega));have x:=Q00 (show Q0K (Q4h a) (k+1)=Q0K (Q4h a) k+szT (a.getD k [])from rfl);have f:=Q00 (show Qax (a.getD k []) z=z - ((a.getD k []).length:Int) - (szT (a.getD k []):Int)from Q84 _ _ _);have U:=C;obtain⟨t,r⟩:∃t,a.getD k []=t:=⟨_,rfl⟩;rw[r]at O G x f;have F:=Q00 r;have HR:=Q00 D;clear P r D R T;obtain⟨m,J⟩:∃m,t.length=m:=⟨_,rfl⟩;rw[J]at O G f;have V:=Q00 J;clear J;generalize Q0K (Q4h a) k=sk at *;go_wp2_with fail;refine G.out.mono ?_
    rintro e w2 ⟨rfl|⟨l,rfl⟩,g⟩
    ·have q:=Q00 (d.out.trans (g.mono d.out.size))
     clear g;go_wp2;go_ret;exact⟨.inl rfl,q.out⟩
    ·have q:=Q00 (d.out.trans (g.mono d.out.size))
     have p:=l t.length (Kaq _);have s:0<=Qax t z:=p;have N:=f.out
     have L:(m:Int)<=n:=by omega
     have E:=Q00 N;clear l g p N f;generalize Qax t z=y at *;go_wp2;go_roundw
     case rel=>exact⟨k+1,y,by omega,by go_num,rfl,s,by(have:=E.out;rw[x.out];push_cast;omega),fun i hi=>(by rcases Nat.lt_succ_iff_lt_or_eq.1 hi with H|H;exact u.out i H;rw[H,F.out,V.out];exact L),q.out⟩
     case measure=>simp[intOf];omega
   ·have e:k=a.length:=by omega
    subst e;have A:Q0K (Q4h a) a.length=szR a:=rfl;rw[A]at C;clear A;go_wp2;go_ret;exact⟨.inr ⟨z,rfl,B,by omega,by omega,u.out⟩,d.out⟩
theorem Qit (ll:List (List Int)) (j:Nat) (h:j < ll.length):(ll.getD j []).length<=szT ll:=by
 have:=Q3o (Q7e ll) h;unfold szT;unfold Q7e at *;omega
theorem Qik (lll:List (List (List Int))) (i:Nat) (h:i < lll.length):szT (lll.getD i [])<=szR lll:=by
 have:=Q3o (Q4h lll) h;unfold szR;unfold Q4h at *;omega
theorem Qi9 {key:Int} {l:List Bk} {a:List (List (List Int))} {n:Int} (h:n<=1048576) (g:(l.length:Int)<=1048576) (c:(a.length:Int)+(szR a:Int)<=n) (h2:∀i,i < a.length->((a.getD i []).length:Int)<=n):Q3a ⟨key,l,a⟩:=
 ⟨by show l.length<=_;omega,by show a.length<=_;omega,by show szR a<=_;omega,fun i hi=>by have:=h2 i hi;show(a.getD i []).length<=_;omega,fun i hi j b=>by
  have d:=Qit (a.getD i []) j b;have f:=Qik a i hi
  show((a.getD i []).getD j []).length<=_
  omega⟩
def Qii (m:Pm):Prop:=m.l.length<=maxLen/\m.ring.length<=maxLen/\(∀i,i < m.ring.length->(m.ring.getD i []).length<=maxLen)/\∀i,i < m.ring.length->∀j,j < (m.ring.getD i []).length->((m.ring.getD i []).getD j []).length<=maxLen
theorem Qgf (v:Value) (m:Pm) (n:Int) (w:World) (I:Q8f w.heap.size w v m) (J:Qii m) (q:0<=n) (r:n<=1048576):
  Calls Tryz.prog 98 #[v,.int .i64 n] w fun e N=>(∃z:Int,e=.returned (.int .i64 z)/\((z < 0/\ -1<=z)\/(0<=z/\z<=n/\Q3a m)))/\Below w.heap.size w N:=by
 obtain⟨P,R,rfl,⟨o,c,rfl,F⟩,u⟩:=I;obtain⟨C,x,rfl⟩:=RiR.len u;obtain⟨M,l2,A,B⟩:=J
 have hs:=fun W=>Qbr o m.l.length c n W M q r
 have p:=Q00 (fun W (y:Below w.heap.size w W) (z:Int) G H=>Q9U (.slice C m.ring.length x) m.ring z W (RiR.mon.go (RiR.stp.go u (Stp.of (lo:=0) (hi:=0) y) (.inl (Kcq _))) (Kaq _) y.size) l2 A B G H);clear F u A B;obtain⟨E,f⟩:∃W,(w.alloc (.cells #[.int .i64 m.key,.slice o m.l.length c,.slice C m.ring.length x] 53))=W:=⟨_,rfl⟩;have a:=alb0v0v1 f;have g:=Q00 a;clear a;have Y:=alz0v0v1 f;obtain⟨U,V,X⟩:=alc3v0v1 f
 by_cases h:n - (m.l.length:Int) < 0
 ·rw[if_pos h]at hs
  go_enter Tryz.func98,Tryz.ntmps98;go_wp2_with fail;refine(hs _).mono ?_;rintro e O ⟨rfl,rfl⟩;go_wp2;go_ret;exact⟨⟨_,rfl,.inl ⟨by decide,by decide⟩⟩,g.out⟩
 ·rw[if_neg h]at hs
  have s:(0:Int)<=n - (m.l.length:Int):=by omega
  have i:=Q00 (p.out E g.out (n - (m.l.length:Int)) s (by omega));go_enter Tryz.func98,Tryz.ntmps98;go_wp2_with fail;refine(hs _).mono ?_;rintro e O ⟨rfl,rfl⟩;go_wp2_with fail;refine i.out.mono ?_;rintro e T ⟨rfl|⟨z,rfl,t,L,j,k⟩,b⟩
  ·have d:=Q00 (g.out.trans (b.mono g.out.size))
   clear b;go_wp2;go_ret;exact⟨⟨_,rfl,.inl ⟨by decide,by decide⟩⟩,d.out⟩
  ·have d:=Q00 (g.out.trans (b.mono g.out.size))
   have D:Hid (Q3a m):=Qi9 (n:=n - (m.l.length:Int)) (by omega) (by omega) j k;clear b j k;go_wp2;go_ret;exact⟨⟨_,rfl,.inr ⟨t,by omega,D.out⟩⟩,d.out⟩
theorem Qeu (v:Value) (m:Pm) (w:World) (hR:Q8f w.heap.size w v m) (hf:Q3a m):
  Calls Tryz.prog 103 #[v] w fun e w'=> ∃v',e=.returned v'/\InPm w.heap.size w'.heap.size w' v' m/\Below w.heap.size w w':=by
 obtain⟨vb,vr,rfl,⟨o,c,rfl,b1⟩,r1⟩:=hR;obtain⟨oR,cR,rfl⟩:=RiR.len r1;obtain⟨am,an,av,N,O⟩:=hf;have af:=Q00 (fun W (M:Below w.heap.size w W)=>QaQ o c m.l W ((b1.rd.kept M (Kaq _)).le M.size) am);have ai:=Q00 (fun W (M:Below w.heap.size w W)=>Qbo (.slice oR m.ring.length cR) m.ring W (RiR.mon.go (RiR.stp.go r1 (Stp.of (lo:=0) (hi:=0) M) (.inl (Kcq _))) (Kaq _) M.size) an N O);clear b1 r1 N O
 obtain⟨W0,a⟩:∃W,(((w.alloc (.cells #[.int .i64 m.key,.slice o m.l.length c,.slice oR m.ring.length cR] 53)).alloc (.cells #[.int .i64 0,.slice none 0 0,.slice none 0 0] 29)).alloc (.cells #[.int .i64 0,.slice none 0 0,.slice none 0 0] 29))=W:=⟨_,rfl⟩;have k:=alb0v0v3 a;have HB:=Q00 k;clear k;have zz:=alz0v0v3 a;obtain⟨z0,z1,z2⟩:=alc3v0v3 a;have zr:=alz0v1v3 a;obtain⟨r0,r1,r2⟩:=alc3v1v3 a;obtain⟨aj,ak,al⟩:=alf3v1v3 a;have zx:=alz0v2v3 a;obtain⟨x0,x1,x2⟩:=alc3v2v3 a;obtain⟨ap,aq,ar⟩:=alf3v2v3 a;have E:=alx0v2v3 a;have D:=alx0v1v3 a
 have ao:=zx;have ax:=HB.out.size;obtain⟨q,g⟩:∃W,W0.setCell ⟨w.heap.size+1+1,0,none⟩ (.int .i64 m.key)=W:=⟨_,rfl⟩;have x:=Q0p E 0 (.int .i64 m.key);rw[g]at x
 have F:q.heap[w.heap.size+1]? =some (.cells #[.int .i64 0,.slice none 0 0,.slice none 0 0] 29 (0,0)):=by rw[<-g];exact(Q12 (by omega) _ _).trans D
 have U:q.heap.size=W0.heap.size:=by rw[<-g];simp
 have I:Below w.heap.size w q:=by rw[<-g];exact HB.out.setCell (p:=⟨w.heap.size+1+1,0,none⟩) (show w.heap.size<=w.heap.size+1+1 by omega) _
 have a0:q.cell? ⟨w.heap.size,0,none⟩=some (.int .i64 m.key):=by rw[<-g];exact(Q0c (by omega)).trans z0
 have a1:q.cell? ⟨w.heap.size,1,none⟩=some (.slice o m.l.length c):=by rw[<-g];exact(Q0c (by omega)).trans z1
 have a2:q.cell? ⟨w.heap.size,2,none⟩=some (.slice oR m.ring.length cR):=by rw[<-g];exact(Q0c (by omega)).trans z2
 have t:=Q00 I;have b:=Q00 U;have ab:=Q00 x;have aa:=Q00 F;clear I U x F E D z1 z2 r0 r1 r2 aj ak al HB;go_enter Tryz.func103,Tryz.ntmps103;go_wp2_with fail;refine(af.out q t.out).mono ?_;rintro e v1 ⟨g1,rfl,B,f⟩;have aw:=f.size;have r:=(f.block _ (show w.heap.size+1+1 < q.heap.size by have:=b.out;omega)).trans ab.out;have R:=(f.block _ (show w.heap.size+1 < q.heap.size by have:=b.out;omega)).trans aa.out;have b0:=bC f a0 (by have:=b.out;omega);have b1:=bC f a1 (by have:=b.out;omega);have b2:=bC f a2 (by have:=b.out;omega)
 have p1:v1.cell? ⟨w.heap.size+1+1,1,none⟩=some (.slice none 0 0):=Q02 r 1 _ rfl;have q1:=Q04 r 1;obtain⟨Z,P⟩:∃o:Option Addr,some ⟨g1,0,none⟩=o:=⟨_,rfl⟩;rw[P]at B ⊢;clear P;obtain⟨i,d⟩:∃W,v1.setCell ⟨w.heap.size+1+1,1,none⟩ (.slice Z m.l.length m.l.length)=W:=⟨_,rfl⟩;have y:=Q0p r 1 (.slice Z m.l.length m.l.length);rw[d]at y
 have G:i.heap[w.heap.size+1]? =some (.cells #[.int .i64 0,.slice none 0 0,.slice none 0 0] 29 (0,0)):=by rw[<-d];exact(Q12 (by omega) _ _).trans R
 have V:i.heap.size=v1.heap.size:=by rw[<-d];simp
 have J:Below w.heap.size w i:=by rw[<-d];exact(t.out.trans (f.mono t.out.size)).setCell (p:=⟨w.heap.size+1+1,1,none⟩) (show w.heap.size<=w.heap.size+1+1 by omega) _
 have ah:Hid (InL Q0L 259 W0.heap.size i.heap.size i (.slice Z m.l.length m.l.length) m.l):=by rw[<-d];exact InRow.of (Q0i (Q06 B (by have:=b.out;omega)) ao 1 _)
 have d0:i.cell? ⟨w.heap.size,0,none⟩=some (.int .i64 m.key):=by rw[<-d];exact(Q0c (by omega)).trans b0
 have d1:i.cell? ⟨w.heap.size,1,none⟩=some (.slice o m.l.length c):=by rw[<-d];exact(Q0c (by omega)).trans b1
 have d2:i.cell? ⟨w.heap.size,2,none⟩=some (.slice oR m.ring.length cR):=by rw[<-d];exact(Q0c (by omega)).trans b2
 have u:=Q00 J;have n:=Q00 V;have ad:=Q00 y;have ac:=Q00 G;clear J V y G r R B f;go_wp2_with fail;refine(ai.out i u.out).mono ?_;rintro e v3 ⟨ay,rfl,A,h⟩;obtain⟨o3,c3,e3⟩:=RiR.len (InR.ri A);subst e3;have Y:=h.size;have s:=(h.block _ (show w.heap.size+1+1 < i.heap.size by have:=n.out;have:=b.out;omega)).trans ad.out;have T:=(h.block _ (show w.heap.size+1 < i.heap.size by have:=n.out;have:=b.out;omega)).trans ac.out;have p2:v3.cell? ⟨w.heap.size+1+1,2,none⟩=some (.slice none 0 0):=Q02 s 2 _ rfl;have q2:=Q04 s 2
 obtain⟨C,j⟩:∃W,v3.setCell ⟨w.heap.size+1+1,2,none⟩ (.slice o3 m.ring.length c3)=W:=⟨_,rfl⟩;have z:=Q0p s 2 (.slice o3 m.ring.length c3);rw[j]at z
 have H:C.heap[w.heap.size+1]? =some (.cells #[.int .i64 0,.slice none 0 0,.slice none 0 0] 29 (0,0)):=by rw[<-j];exact(Q12 (by omega) _ _).trans T
 have L:Below w.heap.size w C:=by rw[<-j];exact(u.out.trans (h.mono u.out.size)).setCell (p:=⟨w.heap.size+1+1,2,none⟩) (show w.heap.size<=w.heap.size+1+1 by omega) _
 have X:C.heap.size=v3.heap.size:=by rw[<-j];simp
 have ag:Hid (InPm W0.heap.size C.heap.size C (plv m.key (.slice Z m.l.length m.l.length) (.slice o3 m.ring.length c3)) m):=by
  rw[X,<-j];exact⟨_,_,i.heap.size,rfl,by have:=n.out;have:=b.out;omega,Y,InRow.step (InRow.step ah.out (Stp.of (lo:=0) (hi:=0) h) (.inl (Kcq _))) (Q0x v3 (w.heap.size+1+1) 2 _) (.inl (by omega)),InR.stp.go A (Q0x v3 (w.heap.size+1+1) 2 _) (.inl (by have:=n.out;have:=b.out;omega))⟩
 obtain⟨e0,e1,e2,g0,au,g2⟩:=Qe9 z;obtain⟨t0,t1,t2,u0,u1,u2⟩:=Qe9 H;have ae:=Q00 L;clear L z H s T A h X;go_wp2;refine bodyPost_ret (v:=plv m.key (.slice Z m.l.length m.l.length) (.slice o3 m.ring.length c3)) (by simp[results,Tryz.results103,go_sem,t0,t1,t2]) rfl ⟨_,rfl, ?_,QaT ae.out (Nat.le_succ _) _ _ _⟩;rw[Qd0];exact QfB (ag.out.step (Qgy C (w.heap.size+1) _ _ _) (.inl (by omega))) (by omega)
theorem Q9c:Tryz.prog.cellsOf 53=3:=by kernel_rfl
theorem QdA:Tryz.prog.cellsOf 206=1:=by kernel_rfl
theorem Q5I {H:Type} {enc:TypeId × Value->H} {W:World} {r:Nat} {cs:List Value} {x:DataW H × List MemPlace} (h:DataW.trod enc Tryz.prog W 0 (fun _=>true) true r 27 cs=some x):
  ∃(o:Option Addr) (cap:Nat) (g:List (List (List Int))),cs=[.slice o g.length cap]/\g.length<=maxLen/\RiR 0 W.heap.size W (.slice o g.length cap) g/\(∀i,i < g.length->(g.getD i []).length<=maxLen)/\∀i,i < g.length->∀j,j < (g.getD i []).length->((g.getD i []).getD j []).length<=maxLen:=by
 rcases Go.Deep.open_slice1 Tryz.underlying27 QdA h with⟨l,_⟩|⟨a,len,cap,m,n,V,D,Pl,l,_,T,U,B,_,E⟩
 ·exact⟨none,0,[],l,Kcq _,⟨[],rfl,⟨none,0,rfl,.inl rfl⟩,fun i hi=>absurd hi (KMq _)⟩,fun i hi=>absurd hi (KMq _),fun i hi=>absurd hi (KMq _)⟩
 ·have N:len<=m:=by rw[B];split <;> omega
  have M:∀i,i < len->∃y:Hd × List (List Int),V i=.slice y.1.1 y.1.2.1 y.1.2.2/\y.1.2.1=y.2.length/\y.2.length<=maxLen/\RdLL W.heap.size W y.1.1 y.2/\∀j,j < y.2.length->(y.2.getD j []).length<=maxLen:=fun i hi=>by
   obtain⟨R,L,J,e,A,P,w⟩:=Q6n (E i (by omega)).2;simp at e;exact⟨((R,J.length,L),J),e,rfl,A,P,w⟩
  have O:Inhabited (Hd × List (List Int)):=⟨((none,0,0),[])⟩;obtain⟨f,s⟩:=Go.Deep.choose_lt M
  have u:∀i,i < len->((List.range len).map (fun i=>(f i).2)).getD i []=(f i).2:=fun i hi=>by simp[hi]
  have G:∀i,i < len->((List.range len).map (fun i=>(f i).1)).getD i (none,0,0)=(f i).1:=fun i hi=>by simp[hi]
  refine⟨some a,cap,(List.range len).map (fun i=>(f i).2),by simpa using l,by simp;omega,⟨(List.range len).map (fun i=>(f i).1),by simp,⟨some a,cap,by simp, ?_⟩,fun i hi=>?_⟩,fun i hi=>?_,fun i hi=>?_⟩
  ·by_cases h0:len=0
   ·left;simp[h0]
   ·right
    obtain⟨b,q,t⟩:=a;have v:=(E 0 (by omega)).1
    have p:t=none:=by simpa[Addr.add]using World.cell?_spot v
    subst p
    have F:∀j,(⟨b,q,none⟩:Addr).add j=⟨b,q+j,none⟩:=fun j=>by by_cases h:j=0 <;> simp[Addr.add,h]
    refine⟨b,q,rfl,Kcq _, ?_,fun i hi j w=>?_⟩
    ·rw[F]at v
     rcases Nat.lt_or_ge b W.heap.size with h|h
     ·exact h
     ·simp[World.cell?,Array.getElem?_eq_none h]at v
    ·have c:i < len:=by simpa using hi
     have z:j=0:=by have:j < 1:=w;omega
     subst z;have I:=(E i (by omega)).1;rw[F]at I;rw[show Q0q.d=(none,0,0)from rfl,G i c,show Q0q.k=1 from rfl,Nat.mul_one,Nat.add_zero,I,(s i c).1]
     rfl
  ·have c:i < len:=by simpa using hi
   have C:hv ((List.range len).map (fun i=>(f i).1)) i=.slice (f i).1.1 (f i).2.length (f i).1.2.2:=by unfold hv;rw[G i c,(s i c).2.1]
   rw[u i c,C];exact RiT.of (s i c).2.2.2.1
  ·have c:i < len:=by simpa using hi
   rw[u i c];exact(s i c).2.2.1
  ·have c:i < len:=by simpa using hi
   rw[u i c];exact(s i c).2.2.2.2
theorem QaZ (k s:Int) (o:Option Addr) (len c:Nat) (n:Int) (w:World) (f:len<=maxLen) (b:0<=n) (d:n<=1048576):
  Calls Tryz.prog 97 #[jrn k (.slice o len c) s,.int .i64 n] w fun e g=>e=.returned (.int .i64 (if n - len < 0 then -1 else n - len))/\Below w.heap.size w g:=by
 have a:Below w.heap.size w w:=KBq
 have hs:=fun W=>Q7f o len c n W f b d
 by_cases h:n - len < 0
 ·rw[if_pos h]at hs
  rw[if_pos h];go_enter Tryz.func97,Tryz.ntmps97;go_wp2_with (go_at_call 149;refine(hs _).mono ?_;rintro e i ⟨rfl,rfl⟩);go_ret;exact⟨rfl,by(repeat (first|with_reducible (first|exact a|exact KBq|refine KHq ?_|refine below_drewN ?_ _|refine KOq ?_ ?_ _|refine KNq ?_ ?_ _)|(focus (simp;first|done|omega))|omega))⟩
 ·rw[if_neg h]at hs
  rw[if_neg h]
  have j:0<=n - (len:Int):=by omega
  go_enter Tryz.func97,Tryz.ntmps97;go_wp2_with (go_at_call 149;refine(hs _).mono ?_;rintro e i ⟨rfl,rfl⟩);go_ret;exact⟨rfl,by(repeat (first|with_reducible (first|exact a|exact KBq|refine KHq ?_|refine below_drewN ?_ _|refine KOq ?_ ?_ _|refine KNq ?_ ?_ _)|(focus (simp;first|done|omega))|omega))⟩
def Qh7 (m:Bm):Prop:=m.j.l.length<=maxLen/\Qii m.p/\m.t.length<=maxLen
theorem Qgm (v:Value) (m:Bm) (w:World) (Z:RdBm w.heap.size w v m) (hl:Qh7 m):
  Calls Tryz.prog 46 #[v,.int .i64 1048576] w fun e w'=>(∃z:Int,e=.returned (.int .i64 z)/\((z < 0/\ -1<=z)\/(0<=z/\z<=1048576/\Q5m m)))/\Below w.heap.size w w':=by
 obtain⟨o,c,ob,X,oR,V,ot,Y,rfl⟩:=Z.opn;obtain⟨vl,vb,vr,vt,e,a1,U,a3⟩:=Z;simp only[Value.agg.injEq,Array.mk.injEq,List.cons.injEq,and_true,true_and]at e;obtain⟨e1,e2,e3,e4⟩:=e;subst e1 e2 e3 e4;obtain⟨l1,l2,l3⟩:=hl;have HJ:=Q00 (fun W=>QaZ m.j.key m.j.safe o m.j.l.length c 1048576 W l1 (by decide) (by decide));have R:=Q00 (fun W (a:Below w.heap.size w W) n I J=>Qgf (plv m.p.key (.slice ob m.p.l.length X) (.slice oR m.p.ring.length V)) m.p n W ((U.kept a (Kaq _)).le a.size) l2 I J);have T:=Q00 (fun W n I J=>Q6P ot m.t.length Y n W l3 I J)
 have G:=Q00 (show m.j.l.length<=1048576->Q3a m.p->m.t.length<=1048576->Q5m m from fun x y z=>⟨x,y,z⟩);clear a1 U a3 l1 l2 l3;generalize m.j.l.length=E at *;generalize m.p.l.length=np at *;generalize m.p.ring.length=nr at *;generalize m.t.length=O at *;generalize m.j.key=kj at *;generalize m.j.safe=sj at *;generalize m.p.key=kp at *;obtain⟨W0,g⟩:∃W,(w.alloc (.cells #[.int .i64 kj,.slice o E c,.int .i64 sj,.int .i64 kp,.slice ob np X,.slice oR nr V,.slice ot O Y] 58))=W:=⟨_,rfl⟩;have f:=alb0v0v1 g;have d:=Q00 f;clear f;have b:=alz0v0v1 g
 obtain⟨h,i,k,q,r,s,u⟩:=alc7v0v1 g;go_enter Tryz.func46,Tryz.ntmps46;go_wp2_with fail;refine(HJ.out W0).mono ?_;rintro e v1 ⟨rfl,a⟩;replace h:=bC a h b;replace i:=bC a i b;replace k:=bC a k b;replace q:=bC a q b;replace r:=bC a r b;replace s:=bC a s b;replace u:=bC a u b;replace b:=Kbq b a.size;replace d:=Q00 (d.out.trans (a.mono d.out.size));clear a
 by_cases hj:(1048576:Int) - E < 0
 ·rw[if_pos hj]
  go_wp2;go_ret;exact⟨⟨_,rfl,.inl ⟨by decide,by decide⟩⟩,d.out⟩
 rw[if_neg hj]
 have B:(0:Int)<=1048576 - (E:Int):=by omega
 have C:(1048576:Int) - (E:Int)<=1048576:=by omega
 have A:=Q00 (R.out v1 d.out _ B C);clear R;obtain⟨y,M⟩:∃y,(1048576:Int) - (E:Int)=y:=⟨_,rfl⟩;rw[M]at A B C ⊢;have HY:=Q00 M;clear M hj;go_wp2_with fail;refine(A.out).mono ?_;rintro e v2 ⟨⟨z,rfl,hz⟩,a⟩;replace h:=bC a h b;replace i:=bC a i b;replace k:=bC a k b;replace q:=bC a q b;replace r:=bC a r b;replace s:=bC a s b;replace u:=bC a u b;replace b:=Kbq b a.size;replace d:=Q00 (d.out.trans (a.mono d.out.size));clear a
 rcases hz with⟨D,N⟩|⟨D,N,P⟩
 ·go_wp2
  go_ret;exact⟨⟨_,rfl,.inl ⟨by decide,by decide⟩⟩,d.out⟩
 have HF':=Q00 P;clear P;have H:=Q00 (T.out v2 z D (by omega));clear T;go_wp2_with fail;refine(H.out).mono ?_;rintro e v3 ⟨rfl,a⟩;replace h:=bC a h b;replace i:=bC a i b;replace k:=bC a k b;replace q:=bC a q b;replace r:=bC a r b;replace s:=bC a s b;replace u:=bC a u b;replace b:=Kbq b a.size;replace d:=Q00 (d.out.trans (a.mono d.out.size));clear a
 by_cases ht:z - (O:Int) < 0
 ·rw[if_pos ht]
  go_wp2;go_ret;exact⟨⟨_,rfl,.inl ⟨by decide,by decide⟩⟩,d.out⟩
 rw[if_neg ht]
 have L:(0:Int)<=z - (O:Int):=by omega
 have F:Hid (Q5m m):=G.out (by have:=HY.out;omega) HF'.out (by omega);go_wp2;go_ret;exact⟨⟨_,rfl,.inr ⟨L,by omega,F.out⟩⟩,d.out⟩
def okI (x:Sc):Prop:=0<=x.1/\x.1 < 6
def okO (p:Option Sc × Option Sc):Prop:=(∀o,p.1=some o->okI o)/\∀o,p.2=some o->okI o
theorem Qc2 {p:Option Sc × Option Sc} {x:Sc} (h:okO p) (c:okI x):okO (Q0S p x):=by
 obtain⟨a,t⟩:=p
 cases a with
 |none=>exact⟨fun o e=>by cases e;exact c,fun o e=>by cases e⟩
 |some o=>
  have b:=h.1 o rfl;unfold Q0S;dsimp only
  split
  ·exact⟨fun q e=>by cases e;exact c,fun q e=>by cases e;exact b⟩
  ·cases t with
   |none=>exact⟨fun q e=>by cases e;exact b,fun q e=>by cases e;exact c⟩
   |some u=>
    have d:=h.2 u rfl;dsimp only
    split
    ·exact⟨fun q e=>by cases e;exact b,fun q e=>by cases e;exact c⟩
    ·exact⟨fun q e=>by cases e;exact b,fun q e=>by cases e;exact d⟩
theorem Qc8:∀(l:List Sc) (p:Option Sc × Option Sc),okO p->(∀x∈l,okI x)->okO (l.foldl Q0S p)
 |[],p,h,_=>h
 |x::l,p,h,hl=>Qc8 l (Q0S p x) (Qc2 h (hl x (by simp))) (fun y hy=>hl y (by simp[hy]))
theorem QgA {l:List Bk} (h:Q0d l=true):∀x∈l,0<=x.1/\x.1 < 6:=fun x c=>by
 obtain⟨i,hi,e⟩:=List.getElem_of_mem c;have a:=Q15.1 h i hi;unfold QcA at a;simp only[Bool.and_eq_true]at a;have h2:=Q4n.1 a.1
 have b:l.getD i (0,0,false)=x:=by rw[KFq,KGq hi,<-e];rfl
 rw[b]at h2;exact⟨h2.1,h2.2.1⟩
theorem Q9b (key b:Int) {l:List Bk} (h:Q0d l=true):Q0G (Q0U key b l)=true:=by
 unfold Q0U
 split
 ·have g:okO (Q4V (scL key b l)):=Qc8 _ (none,none) ⟨fun o e=>(nomatch e),fun o e=>(nomatch e)⟩ (fun x f=>by
   unfold scL at f;simp only[List.mem_map,List.mem_filter]at f;obtain⟨y,⟨i,_⟩,rfl⟩:=f
   exact QgA h y i)
  generalize Q4V (scL key b l)=p at *;obtain⟨a,t⟩:=p
  cases a with
  |none=>rfl
  |some o=>
   have c:=g.1 o rfl;unfold okI at c
   cases t with
   |none=>simp[Q7A,Q0G,idB,c.1,c.2]
   |some u=>
    have d:=g.2 u rfl;unfold okI at d;simp[Q7A,Q0G,idB,c.1,c.2,d.1,d.2]
 ·rfl
def Q2E (key:Int) (l:List Bk):Pt:=fun b=>QgC (Q0U key b l)
theorem Q9F (key:Int) {l:List Bk} (h:Q0d l=true):Q1e (Q2J (fun b=>Q0U key b l) 8)=true:=
 Q9S (Q16 _ _) (fun i hi=>by rw[Q1V _ _ _ hi];exact Q9b key i h)
theorem QgE (key:Int) (l:List Bk):ptA (Q3k (Q2J (fun b=>Q0U key b l) 8))=ptA (Q2E key l):=
 Qac (fun i hi=>by unfold Q3k Q2E;rw[Q1V _ _ _ hi])
theorem QgP (key:Int) {l:List Bk} (h:Q0d l=true):Q41 (Q2E key l)=Q2J (fun b=>Q0U key b l) 8:=by
 unfold Q41 Q2J Q2E;exact List.map_congr_left (fun i hi=>Q4l (Q9b key i h))
theorem Qbx {a:Func} {p:Tmp} (h:a.results=#[.cell p 266]) (tmps:Array Value) (w:World) (g:Nat) (f:Pt) (c:tmps.getD p undef=.pointer (some ⟨g,0,none⟩)) (b:w.heap[g]? =some (.cells (ptA f) 266 (0,0))):
  (results a tmps).run Tryz.prog w=.ok (ptv f) w:=results_cell_row h tmps w g _ (ptA f) (0,0) _ c b ptU rfl (QiC f)
theorem Q1i (key:Int) (o:Option Addr) (cap:Nat) (l:List Bk) (w:World) (E:RdK w.heap.size w o l) (s:l.length<=1048576) (N:Q1S key=true) (F:Q0d l=true):
  Calls Tryz.prog 181 #[.int .i64 key,.slice o l.length cap] w fun e R=>e=.returned (ptv (Q2E key l))/\Below w.heap.size w R:=by
 obtain⟨D,r⟩:∃W,(w.alloc (.cells #[.bool false,.int .i64 0,.int .i64 0,.bool false,.int .i64 0,.int .i64 0,.bool false,.int .i64 0,.int .i64 0,.bool false,.int .i64 0,.int .i64 0,.bool false,.int .i64 0,.int .i64 0,.bool false,.int .i64 0,.int .i64 0,.bool false,.int .i64 0,.int .i64 0,.bool false,.int .i64 0,.int .i64 0] 266))=W:=⟨_,rfl⟩;have c:=alb0v0v1 r
 have G:D.heap[w.heap.size]? =some (.cells (ptA ptZ) 266 (0,0)):=by rw[<-r];exact World.alloc_heap_new w _
 have C:=Q00 (Q70 key o cap l D ((E.kept c (Kaq _)).le c.size) s);have L:=Q00 (show Qgu key l=8 by rw[Qgu,if_pos ⟨N,F⟩]);have x:=Q00 (Q9F key F);have J:=Q00 (QgE key l);have y:=Q00 G;have f:=Q00 c;clear G c E;go_enter Tryz.func181,Tryz.ntmps181;go_wp2_with fail;refine C.out.mono ?_;rintro e P ⟨v,rfl,hv,k⟩;obtain⟨O,M,rfl,n⟩:=hv.open;rw[L.out]at n ⊢;have t:=Q2N O M (Q2J (fun b=>Q0U key b l) 8) P n (by rw[Q16];omega) (fun i hi=>by rw[Q16]at hi;rw[Q1V _ _ _ hi];have:=QaF key i l;omega);rw[x.out,if_pos rfl,Q16]at t;unfold ptv at t
 rw[J.out]at t;have B:=Q00 t;have g:=Q00 (f.out.trans (k.mono f.out.size));have h:=Q00 ((k.block _ (KEq y.out)).trans y.out);clear hv k n t C;go_wp2_with fail;refine B.out.mono ?_;rintro e p ⟨rfl,m⟩;have a:=Q00 (g.out.trans (m.mono g.out.size));have d:=(m.block _ (KEq h.out)).trans h.out
 obtain⟨z,j⟩:∃W,(p.alloc (.cells #[.bool false,.int .i64 0,.int .i64 0,.bool false,.int .i64 0,.int .i64 0,.bool false,.int .i64 0,.int .i64 0,.bool false,.int .i64 0,.int .i64 0,.bool false,.int .i64 0,.int .i64 0,.bool false,.int .i64 0,.int .i64 0,.bool false,.int .i64 0,.int .i64 0,.bool false,.int .i64 0,.int .i64 0] 266))=W:=⟨_,rfl⟩
 have H:Hid (z.heap[p.heap.size]? =some (.cells (ptA ptZ) 266 (0,0))):=by rw[<-j];exact World.alloc_heap_new p _
 have I:Hid (z.heap[w.heap.size]? =some (.cells (ptA ptZ) 266 (0,0))):=by rw[<-j];exact(Below.heap_alloc _ _ _ (KEq d)).trans d
 have q:Hid (w.heap.size≠p.heap.size):=Nat.ne_of_lt (KEq d)
 have u:Hid (Below w.heap.size w z):=by rw[<-j];exact a.out.alloc a.out.size _
 have A:w.heap.size<=p.heap.size:=a.out.size;clear m d a B g h f y;go_wp2_with (first|(refine Q0B rfl (.tmp 5) (.tmp 12) rfl p.heap.size (Q2E key l) ptZ rfl rfl H.out ?_)|(refine Q1u rfl (.tmp 5) rfl p.heap.size rfl (Q2E key l) (setRow_heap _ _ _ _ _ _ H.out) ?_)|(refine Q0B rfl (.tmp 4) (.tmp 14) rfl w.heap.size (Q2E key l) ptZ rfl rfl ((setRow_other _ _ _ _ q.out).trans I.out) ?_));refine bodyPost_ret (Qbx rfl _ _ w.heap.size (Q2E key l) rfl (setRow_heap _ _ _ _ _ _ ((setRow_other _ _ _ _ q.out).trans I.out))) rfl ⟨rfl,Q3A (Q3A u.out A _) (Kaq _) _⟩
theorem Q9H:Tryz.prog.cellsOf 58=7:=by kernel_rfl
theorem QaH:Tryz.prog.cellsOf 3=1:=by kernel_rfl
theorem Q6U:Tryz.prog.cellsOf 51=1:=by kernel_rfl
theorem Q9G:Tryz.prog.cellsOf 27=1:=by kernel_rfl
end Go.Proofs.YteffhdcankkfkaaGreat
