/- Several texts in one: SPt, SPt2, SPt3, SPl, SPw, ShP2. -/
import Derived.Deep.MidRow
import Derived.Deep.WholeRow
import Derived.Test.YtpneolgdghbinaaGreatQLearnsL26
namespace Go.Proofs.YtpneolgdghbinaaGreat
open Go.ChangeShapes Go.WideShapes Go.ChangeAt Go.RowKit Go.Joins
set_option linter.unusedVariables false
set_option linter.unusedSimpArgs false
set_option maxRecDepth 100000
set_option maxHeartbeats 40000000
abbrev Ip:=Bool × Int × Int
def Qgk:Lay Ip:=⟨3,fun a=> [.bool a.1,.int .i64 a.2.1,.int .i64 a.2.2],(false,0,0),fun _=> rfl⟩
abbrev ipv (a:Ip):Value:=.agg #[.bool a.1,.int .i64 a.2.1,.int .i64 a.2.2]
def QgU (l:List Int):Ip:=if l.length=0 then (false,0,0) else (true,l.getD 0 0,l.getD 1 0)
def Q36 (a:Ip):List Int:=if a.1=true then [a.2.1,a.2.2] else []
def idB (x:Int):Bool:=decide (0≤x) && decide (x < 6)
def Q0T (l:List Int):Bool:=decide (l.length=0)||(decide (l.length=2) && idB (l.getD 0 0) && idB (l.getD 1 0))
theorem Q4w {l:List Int} (h:Q0T l=true):Q36 (QgU l)=l:=by
 unfold Q0T at h;simp only [Bool.or_eq_true,Bool.and_eq_true,decide_eq_true_eq] at h
 rcases h with h|⟨⟨h,_⟩,_⟩
 ·have e:l=[]:=List.eq_nil_of_length_eq_zero h
  subst e;rfl
 ·match l,h with
  |[a,b],_=> rfl
theorem QhX (w:World) (x y:Int):Qa6 (w.alloc (.cells #[.int .i64 x,.int .i64 y] 3)) w.heap.size (.slice (some ⟨w.heap.size,0,none⟩) 2 2) [x,y]:=
 ⟨by simp [Q2w],.inr ⟨w.heap.size,2,#[.int .i64 x,.int .i64 y],rfl,Kaq _,heap_alloc_new w _,by simp,by unfold maxLen;omega,by simp [Q2w],by simp [Q2w]⟩⟩
theorem Qcd (a:Ip) (w:World):
  Calls Tryz.prog 144 #[ipv a] w fun e b=> ∃o c,e=.returned (.slice o (Q36 a).length c)∧Qa6 b w.heap.size (.slice o (Q36 a).length c) (Q36 a)∧Below w.heap.size w b:=by
 obtain ⟨s,x,y⟩:=a
 cases s with
 |false=>
  go_enter Tryz.func144,Tryz.ntmps144;go_wp2;go_ret;exact ⟨none,0,rfl,World.ownsRow_nil _ _ _ _,by (repeat (first|with_reducible (first|exact hB|exact Below.refl _ _|refine Below.drew ?_|refine below_drewN ?_ _|refine Below.alloc ?_ ?_ _|refine Below.setCell ?_ ?_ _)|(focus (simp;first|done|omega))|omega))⟩
 |true=>
  go_enter Tryz.func144,Tryz.ntmps144;go_wp2;go_ret;have h:=QhX (w.alloc (.cells #[.bool true,.int .i64 x,.int .i64 y] 186)) x y;rw [World.size_alloc] at h;exact ⟨_,_,rfl,Q04 h (Nat.le_succ _),by (repeat (first|with_reducible (first|exact hB|exact Below.refl _ _|refine Below.drew ?_|refine below_drewN ?_ _|refine Below.alloc ?_ ?_ _|refine Below.setCell ?_ ?_ _)|(focus (simp;first|done|omega))|omega))⟩
theorem Q7D (x:Int) (w:World):Calls Tryz.prog 61 #[.int .i64 x] w fun e w'=> e=.returned (.bool (idB x))∧w=w':=Q2F x w
theorem Q8a (o:Option Addr) (cap:Nat) (l:List Int) (w:World) (g:RdI w.heap.size w o l) (i:l.length≤1048576):
  Calls Tryz.prog 183 #[.slice o l.length cap] w fun e m=> e=.returned (.tuple #[ipv (if Q0T l=true then QgU l else (false,0,0)),.bool (Q0T l)])∧Below w.heap.size w m:=by
 by_cases h0:l.length=0
 ·have e:l=[]:=List.eq_nil_of_length_eq_zero h0
  subst e;rw [show Q0T []=true from rfl,show QgU []=(false,0,0) from rfl];simp only [if_true];go_enter Tryz.func183,Tryz.ntmps183;go_wp2;refine bodyPost_ret (v:=.tuple #[ipv (false,0,0),.bool true]) (by simp [results,Tryz.results183,go_sem]) rfl ⟨rfl,by (repeat (first|with_reducible (first|exact hB|exact Below.refl _ _|refine Below.drew ?_|refine below_drewN ?_ _|refine Below.alloc ?_ ?_ _|refine Below.setCell ?_ ?_ _)|(focus (simp;first|done|omega))|omega))⟩
 ·by_cases h2:l.length=2
  ·match l,h2 with
   |[x,y],_=>
    rcases g with g|⟨b,off,rfl,k,a⟩
    ·cases g
    have p:w.cell? ⟨b,off,none⟩=some (.int .i64 x):=a 0 (by simp) 0 (by decide);have n:w.cell? ⟨b,off+1,none⟩=some (.int .i64 y):=a 1 (by simp) 0 (by decide)
    have c:=fun w=> Q7D x w
    have d:=fun w=> Q7D y w
    have h:Q0T [x,y]=(idB x && idB y):=by simp [Q0T]
    rw [h,show QgU [x,y]=(true,x,y) from rfl];clear a h
    cases h3:idB x with
    |false=>
     rw [h3] at c;try simp only [Bool.false_and,Bool.true_and,Bool.false_eq_true,if_false];go_enter Tryz.func183,Tryz.ntmps183;go_wp2_with (first|(go_at_call 61;refine (c _).mono ?_;rintro e f ⟨rfl,rfl⟩));refine bodyPost_ret (v:=.tuple #[ipv (false,0,0),.bool false]) (by simp [results,Tryz.results183,go_sem]) rfl ⟨rfl,by (repeat (first|with_reducible (first|exact hB|exact Below.refl _ _|refine Below.drew ?_|refine below_drewN ?_ _|refine Below.alloc ?_ ?_ _|refine Below.setCell ?_ ?_ _)|(focus (simp;first|done|omega))|omega))⟩
    |true=>
     rw [h3] at c;try simp only [Bool.false_and,Bool.true_and,Bool.false_eq_true,if_false]
     cases h4:idB y with
     |false=>
      rw [h4] at d;simp only [Bool.false_eq_true,if_false,if_true];go_enter Tryz.func183,Tryz.ntmps183;go_wp2_with (first|(go_at_call 61;first|(refine (c _).mono ?_;rintro e f ⟨rfl,rfl⟩)|(refine (d _).mono ?_;rintro e f ⟨rfl,rfl⟩)));refine bodyPost_ret (v:=.tuple #[ipv (false,0,0),.bool false]) (by simp [results,Tryz.results183,go_sem]) rfl ⟨rfl,by (repeat (first|with_reducible (first|exact hB|exact Below.refl _ _|refine Below.drew ?_|refine below_drewN ?_ _|refine Below.alloc ?_ ?_ _|refine Below.setCell ?_ ?_ _)|(focus (simp;first|done|omega))|omega))⟩
     |true=>
      rw [h4] at d;simp only [Bool.false_eq_true,if_false,if_true];go_enter Tryz.func183,Tryz.ntmps183;go_wp2_with (first|(go_at_call 61;first|(refine (c _).mono ?_;rintro e f ⟨rfl,rfl⟩)|(refine (d _).mono ?_;rintro e f ⟨rfl,rfl⟩)))
      go_region
      all_goals (go_wp2;refine bodyPost_ret (v:=.tuple #[ipv (true,x,y),.bool true]) (by simp [results,Tryz.results183,go_sem]) rfl ⟨rfl,by (repeat (first|with_reducible (first|exact hB|exact Below.refl _ _|refine Below.drew ?_|refine below_drewN ?_ _|refine Below.alloc ?_ ?_ _|refine Below.setCell ?_ ?_ _)|(focus (simp;first|done|omega))|omega))⟩)
  ·rw [show Q0T l=false by simp [Q0T,h0,h2]]
   simp only [Bool.false_eq_true,if_false];have j:((l.length:Int)==2)=false:=beq_eq_false_iff_ne.2 (by omega);go_enter Tryz.func183,Tryz.ntmps183;go_wp2;refine bodyPost_ret (v:=.tuple #[ipv (false,0,0),.bool false]) (by simp [results,Tryz.results183,go_sem]) rfl ⟨rfl,by (repeat (first|with_reducible (first|exact hB|exact Below.refl _ _|refine Below.drew ?_|refine below_drewN ?_ _|refine Below.alloc ?_ ?_ _|refine Below.setCell ?_ ?_ _)|(focus (simp;first|done|omega))|omega))⟩
abbrev Pt:=Nat→Ip
def ptL (f:Pt):List Value:=((List.range 8).map f).flatMap Qgk.cs
def ptA (f:Pt):Array Value:=(ptL f).toArray
abbrev ptv (f:Pt):Value:=.agg (ptA f)
def ptZ:Pt:=fun _=> (false,0,0)
def upd (f:Pt) (k:Nat) (p:Ip):Pt:=fun i=> if i=k then p else f i
theorem Q4n {B g:Nat} {b w:World} (a:Below B b w) (c:B≤g) (cs:Array Value):Below B b (w.setRow g cs):=⟨a.os,a.tape,a.output,by simpa using a.size,fun k d=> (setRow_other w g k cs (by omega)).trans (a.block k d)⟩
theorem QbI (f:Pt):(ptL f).length=24:=rfl
theorem QcM (f:Pt):(ptA f).size=24:=rfl
theorem QhV (f:Pt) (k:Nat) (p:Ip):((List.range 8).map f).set k p=(List.range 8).map (upd f k p):=by
 apply List.ext_getElem
 ·simp
 ·intro i b h2
  simp at b h2
  by_cases h:k=i
  ·subst h;simp [upd]
  ·have a:¬i=k:=fun e=> h e.symm
   simp [upd,h,a,List.getElem_set]
theorem Qih (f:Pt) (k:Nat) (p:Ip):(((ptL f).set (k * 3) (.bool p.1)).set (k * 3+1) (.int .i64 p.2.1)).set (k * 3+2) (.int .i64 p.2.2)=ptL (upd f k p):=by
 unfold ptL;rw [←QhV];exact Qah Qgk rfl rfl _ k
theorem Qi3 (f:Pt) (k:Nat) (p:Ip):(((ptA f).setIfInBounds (k * 3) (.bool p.1)).setIfInBounds (k * 3+1) (.int .i64 p.2.1)).setIfInBounds (k * 3+2) (.int .i64 p.2.2)=ptA (upd f k p):=by
 unfold ptA;rw [←Qih];simp
theorem Qbf (f:Pt) (j:Nat) (h:j < 24):∃u,(ptA f)[j]? =some u:=⟨_,Array.getElem?_eq_getElem (by rw [QcM];exact h)⟩
theorem Qch (f:Pt) (k:Nat) (h:k < 8):(ptA f).extract (k * 3) (k * 3+3)=#[.bool (f k).1,.int .i64 (f k).2.1,.int .i64 (f k).2.2]:=by
 match k,h with
 |0,_=> rfl
 |1,_=> rfl
 |2,_=> rfl
 |3,_=> rfl
 |4,_=> rfl
 |5,_=> rfl
 |6,_=> rfl
 |7,_=> rfl
 |n+8,h=> exact absurd h (by omega)
theorem Qhy (f:Pt):(ptA f).all (·.oneCell')=true:=all_oneCell_toArray (fun v hv=> by
 unfold ptL at hv;simp only [List.mem_flatMap,Qgk,List.mem_cons,List.not_mem_nil,or_false] at hv
 obtain ⟨a,_,rfl|rfl|rfl⟩:=hv <;> rfl)
theorem ptU:Tryz.prog.underlying 188=some (.array 8 186):=by kernel_rfl
theorem ptI:(Tryz.prog.info? 188).map (·.size)=some 24:=by kernel_rfl
theorem QiV (f:Pt):(Tryz.prog.info? 188).map (·.size)=some (ptA f).size:=ptI
theorem ipI:(Tryz.prog.info? 186).map (·.size)=some 3:=by kernel_rfl
theorem Qi2 (w:World):(isAgg 186).run Tryz.prog w=.ok true w:=by
 simp [go_sem]
theorem Qfz (w:World):(sizeOf 186).run Tryz.prog w=.ok 3 w:=by
 have h:=ipI
 cases hq:Tryz.prog.info? 186 with
 |none=> simp [hq] at h
 |some i=>
  simp [hq] at h;simp [sizeOf,typeInfo,hq,h]
theorem Q1S {b:Array Oper} {rest:List Oper} {o:Oper} {a:Act} {w:World} {Q:Exit→Act→World→Prop} (c:o.guard=none) (x:Operand) (d:o.op=.load 188 x)
  (g:Nat) (i:a.eval x=.pointer (some ⟨g,0,none⟩)) (f:Pt) (j:w.heap[g]? =some (.cells (ptA f) 188 (0,0)))
  (h:wpList Tryz.prog b Q rest (a.put o.dst (ptv f)) w):wpList Tryz.prog b Q (o::rest) a w:=
 wpList_load_row c _ x d g i _ _ _ _ j ptU rfl (QiV f) h
theorem Q0R {b:Array Oper} {rest:List Oper} {o:Oper} {a:Act} {w:World} {Q:Exit→Act→World→Prop} (c:o.guard=none) (x y:Operand) (j:o.op=.store 188 x y)
  (g:Nat) (f d:Pt) (k:a.eval x=.pointer (some ⟨g,0,none⟩)) (i:a.eval y=ptv f) (l:w.heap[g]? =some (.cells (ptA d) 188 (0,0)))
  (h:wpList Tryz.prog b Q rest (a.put o.dst undef) (w.setRow g (ptA f))):wpList Tryz.prog b Q (o::rest) a w:=
 wpList_store_row c _ x y j g (ptA f) k i _ _ l (QiV f) rfl (Qhy f) h
theorem Q7M {b:Array Oper} {rest:List Oper} {o:Oper} {a:Act} {w:World} {Q:Exit→Act→World→Prop} (c:o.guard=none) (x g:Operand) (i:o.op=.index 188 x g)
  (f:Pt) (k:Nat) (l:k < 8) (j:a.eval x=ptv f) (hi:a.eval g=.int .i64 (k:Int))
  (h:wpList Tryz.prog b Q rest (a.put o.dst (ipv (f k))) w):wpList Tryz.prog b Q (o::rest) a w:=
 wpList_plain c fun _ hK=> by
  have d:(k:Int) < 8:=by omega
  unfold Oper.wp execOp;simp only [i,j,hi,Instr.index,asIntOf,Sem.run_bind,Sem.run_pure,Result.andThen_ok,run_underlying ptU,part,Qi2,Qfz];simp [d,Qch f k l,part,Qi2,Qfz,Sem.run_bind];exact hK _ _ h
def Q1r (ll:List (List Int)):Bool:=decide (ll.length=8) && (List.range 8).all (fun i=> Q0T (ll.getD i []))
def Q38 (ll:List (List Int)):Pt:=fun i=> QgU (ll.getD i [])
def QcQ (ll:List (List Int)) (k:Nat):Pt:=fun i=> if i < k then QgU (ll.getD i []) else (false,0,0)
def Q4h (f:Pt):List (List Int):=(List.range 8).map (fun i=> Q36 (f i))
theorem QaY {f g:Pt} (h:∀i,i < 8→f i=g i):ptA f=ptA g:=by
 unfold ptA ptL;rw [List.map_congr_left (fun a ha=> h a (by simpa using ha))]
theorem Q7O {w:World} {B b:Nat} (h:b≠B) (j:Nat) (u:Value):(w.setCell ⟨B,j,none⟩ u).heap[b]? =w.heap[b]? :=by
 by_cases hb:b < w.heap.size
 ·exact (Q0I w B j u).block b hb (by simp [h])
 ·have a:w.heap[b]? =none:=Array.getElem?_eq_none (by omega)
  have h2:(w.setCell ⟨B,j,none⟩ u).heap[b]? =none:=Array.getElem?_eq_none (by simp;omega);rw [a,h2]
theorem Qdu (ll:List (List Int)):QcQ ll 0=ptZ:=by funext i;simp [QcQ,ptZ]
theorem Qf1 (ll:List (List Int)):ptA (QcQ ll 8)=ptA (Q38 ll):=QaY (fun i hi=> by simp [QcQ,Q38,hi])
theorem Qg1 (ll:List (List Int)) (k:Nat):upd (QcQ ll k) k (QgU (ll.getD k []))=QcQ ll (k+1):=by
 funext i
 unfold upd QcQ
 by_cases h:i=k
 ·subst h;simp
 ·by_cases h2:i < k
  ·simp [h,h2,show i < k+1 by omega]
  ·simp [h,h2,show ¬i < k+1 by omega]
theorem QgX {ll:List (List Int)} {k:Nat} (a:k < 8) (h:Q0T (ll.getD k [])=false):Q1r ll=false:=by
 unfold Q1r
 have:(List.range 8).all (fun i=> Q0T (ll.getD i []))=false:=by
  rw [List.all_eq_false];exact ⟨k,by simpa using a,by rw [h];simp⟩
 rw [this,Bool.and_false]
theorem Qb3 {ll:List (List Int)} (a:ll.length=8) (h:∀i,i < 8→Q0T (ll.getD i [])=true):Q1r ll=true:=by
 unfold Q1r;rw [decide_eq_true a,Bool.true_and,List.all_eq_true]
 exact fun i hi=> h i (by simpa using hi)
theorem Qi1 {ll:List (List Int)} {k:Nat} (h:∀i,i < k→Q0T (ll.getD i [])=true) (b:Q0T (ll.getD k [])=true):∀i,i < k+1→Q0T (ll.getD i [])=true:=fun i hi=> by
 rcases Nat.lt_succ_iff_lt_or_eq.1 hi with a|a
 ·exact h i a
 ·subst a;exact b
theorem Q6k {b:Func} {p q:Tmp} (h:b.results=#[.cell p 188,.tmp q]) (tmps:Array Value) (w:World) (g:Nat) (f:Pt) (c:tmps.getD p undef=.pointer (some ⟨g,0,none⟩)) (d:w.heap[g]? =some (.cells (ptA f) 188 (0,0))):
  (results b tmps).run Tryz.prog w=.ok (.tuple #[ptv f,tmps.getD q undef]) w:=by
 have a:tmps[p]?.getD undef=.pointer (some ⟨g,0,none⟩):=by simpa using c
 simp [results,h,a,asAddr,run_loadVar_row w g 188 188 (ptA f) (0,0) _ d ptU rfl (QiV f)]
theorem Q3L (o:Option Addr) (cap:Nat) (ll:List (List Int)) (w:World) (hR:RdLL w.heap.size w o ll) (hl:ll.length≤1048576) (hx:∀i,i < ll.length→(ll.getD i []).length≤1048576):
  Calls Tryz.prog 162 #[.slice o ll.length cap] w fun e w'=> e=.returned (.tuple #[ptv (if Q1r ll=true then Q38 ll else ptZ),.bool (Q1r ll)])∧Below w.heap.size w w':=by
 obtain ⟨T,f⟩:∃W,((w.alloc (.cells #[.bool false,.int .i64 0,.int .i64 0,.bool false,.int .i64 0,.int .i64 0,.bool false,.int .i64 0,.int .i64 0,.bool false,.int .i64 0,.int .i64 0,.bool false,.int .i64 0,.int .i64 0,.bool false,.int .i64 0,.int .i64 0,.bool false,.int .i64 0,.int .i64 0,.bool false,.int .i64 0,.int .i64 0] 188)).alloc (.cells #[.bool false,.int .i64 0,.int .i64 0,.bool false,.int .i64 0,.int .i64 0,.bool false,.int .i64 0,.int .i64 0,.bool false,.int .i64 0,.int .i64 0,.bool false,.int .i64 0,.int .i64 0,.bool false,.int .i64 0,.int .i64 0,.bool false,.int .i64 0,.int .i64 0,.bool false,.int .i64 0,.int .i64 0] 188))=W:=⟨_,rfl⟩
 have F:=alb0v0v2 f
 have I:T.heap[w.heap.size]? =some (.cells (ptA ptZ) 188 (0,0)):=by rw [←f];exact Q3U w _ _ _
 have H:T.heap[w.heap.size+1]? =some (.cells (ptA ptZ) 188 (0,0)):=by rw [←f];exact Q1V w _ _ _
 have aa:T.heap.size=w.heap.size+1+1:=by rw [←f];simp
 have n:=Q01 F;have l:=Q01 I;have r:=Q01 H;clear F I H
 by_cases h8:ll.length=8
 ·rw [h8]
  have H8:=Q01 h8;clear h8 hl;have HR:=Q01 hR;have HX:=Q01 hx;clear hR hx;obtain ⟨A,X⟩:∃A,(.tuple #[ptv (if Q1r ll=true then Q38 ll else ptZ),.bool (Q1r ll)]:Value)=A:=⟨_,rfl⟩;rw [X];have L:=Q01 X;clear X;go_enter Tryz.func162,Tryz.ntmps162;go_wp2
  go_loopw [15] (fun iv wr=> ∃k:Nat,k≤8∧iv=.int .i64 (k:Int)∧Hid (wr.heap[w.heap.size]? =some (.cells (ptA ptZ) 188 (0,0)))∧Hid (wr.heap[w.heap.size+1]? =some (.cells (ptA (QcQ ll k)) 188 (0,0)))∧Hid (∀i,i < k→Q0T (ll.getD i [])=true)∧Hid (Below w.heap.size w wr))
   (fun iv _=> 8 - (intOf iv).toNat)
  case atStart=> exact ⟨0,Kcq _,rfl,l.out,by rw [Qdu];exact r.out,fun i hi=> absurd hi (Nat.not_lt_zero _),n.out⟩
  case round=>
   obtain ⟨k,hk,rfl,M,V,B,d⟩:=hrel;clear l r n aa f;have Y:=(Array.getElem?_eq_some_iff.1 V.out).1
   by_cases hlt:k < 8
   ·have ac:(k:Int) < 8:=by omega
    obtain ⟨b,off,o',c',rfl,hb,hc,hr⟩:=((HR.out.kept d.out (Kaq _)).le d.out.size).at (Kaq _) k (by rw [H8.out];exact hlt);have m:=Q8a o' c' (ll.getD k []) wr hr (HX.out k (by rw [H8.out];exact hlt));clear hr
    cases hq:Q0T (ll.getD k []) with
    |false=>
     rw [hq] at m;simp only [Bool.false_eq_true,if_false] at m
     have u:A=.tuple #[ptv ptZ,.bool false]:=by rw [←L.out,QgX hlt hq];rfl
     clear hq L;subst u;generalize (ll.getD k []).length=q at *;go_wp2_with fail;refine m.mono ?_;rintro e N ⟨rfl,a⟩;have h2:=Q01 ((a.block _ (show w.heap.size < wr.heap.size by omega)).trans M.out);have c:=Q01 (d.out.trans (a.mono d.out.size));have P:=a.size;clear a m;have H2':Hid ((N.alloc (.cells #[.bool false,.int .i64 0,.int .i64 0] 186)).heap[w.heap.size]? =some (.cells (ptA ptZ) 188 (0,0))):=(Below.heap_alloc _ _ _ (by omega)).trans h2.out
     have j:Hid (Below w.heap.size w (N.alloc (.cells #[.bool false,.int .i64 0,.int .i64 0] 186))):=c.out.alloc c.out.size _;clear c h2;go_wp2_with (first|(refine Q0R rfl (.tmp 2) (.tmp 27) rfl w.heap.size ptZ ptZ rfl rfl H2'.out ?_));refine bodyPost_ret (Q6k rfl _ _ w.heap.size ptZ rfl (setRow_heap _ _ _ _ _ _ H2'.out)) rfl ⟨rfl,Q4n j.out (Kaq _) _⟩
    |true=>
     rw [hq] at m;simp only [if_true] at m;have HQ:=Q01 hq;have HS:=Q01 (Qg1 ll k);obtain ⟨p,E⟩:∃p,QgU (ll.getD k [])=p:=⟨_,rfl⟩;rw [E] at m HS;clear E hq;obtain ⟨s,x,y⟩:=p;generalize (ll.getD k []).length=q at *;go_wp2_with fail;refine m.mono ?_;rintro e N ⟨rfl,a⟩;have h2:=Q01 ((a.block _ (show w.heap.size < wr.heap.size by omega)).trans M.out);have h4:=Q01 ((a.block _ Y).trans V.out);have c:=Q01 (d.out.trans (a.mono d.out.size));have P:=a.size;clear a m;obtain ⟨D,g⟩:∃W,N.alloc (.cells #[.bool s,.int .i64 x,.int .i64 y] 186)=W:=⟨_,rfl⟩
     have C:D.heap[w.heap.size]? =some (.cells (ptA ptZ) 188 (0,0)):=by rw [←g];exact (Below.heap_alloc _ _ _ (by omega)).trans h2.out
     have h:D.heap[w.heap.size+1]? =some (.cells (ptA (QcQ ll k)) 188 (0,0)):=by rw [←g];exact (Below.heap_alloc _ _ _ (by omega)).trans h4.out
     obtain ⟨u0,u1,u2⟩:=alc3v0v1 g
     have j:Hid (Below w.heap.size w D):=by rw [←g];exact c.out.alloc c.out.size _
     obtain ⟨q0,e0⟩:=Qbf (QcQ ll k) (k * 3) (by omega);obtain ⟨q1,e1⟩:=Qbf (QcQ ll k) (k * 3+1) (by omega);obtain ⟨q2,e2⟩:=Qbf (QcQ ll k) (k * 3+2) (by omega);have a0:D.cell? ⟨w.heap.size+1,k * 3,none⟩=some q0:=Q00 h _ _ e0;have g0:=Q02 h (k * 3);have J:=Q06 h (k * 3) (.bool s);obtain ⟨W2,v⟩:∃W,D.setCell ⟨w.heap.size+1,k * 3,none⟩ (.bool s)=W:=⟨_,rfl⟩;rw [v] at J;have a1:W2.cell? ⟨w.heap.size+1,k * 3+1,none⟩=some q1:=Q00 J _ _ (by rw [Array.getElem?_setIfInBounds_ne (by omega)];exact e1);have g1:=Q02 J (k * 3+1);have G:=Q06 J (k * 3+1) (.int .i64 x)
     obtain ⟨W3,t⟩:∃W,W2.setCell ⟨w.heap.size+1,k * 3+1,none⟩ (.int .i64 x)=W:=⟨_,rfl⟩;rw [t] at G;have a2:W3.cell? ⟨w.heap.size+1,k * 3+2,none⟩=some q2:=Q00 G _ _ (by rw [Array.getElem?_setIfInBounds_ne (by omega),Array.getElem?_setIfInBounds_ne (by omega)];exact e2);have g2:=Q02 G (k * 3+2);have U:=Q06 G (k * 3+2) (.int .i64 y);obtain ⟨Z,z⟩:∃W,W3.setCell ⟨w.heap.size+1,k * 3+2,none⟩ (.int .i64 y)=W:=⟨_,rfl⟩;rw [z] at U
     have R:Hid (Z.heap[w.heap.size+1]? =some (.cells (ptA (QcQ ll (k+1))) 188 (0,0))):=by rw [←HS.out,←Qi3];exact U
     have ab:Hid (Z.heap[w.heap.size]? =some (.cells (ptA ptZ) 188 (0,0))):=by
      rw [←z,←t,←v];exact (Q7O (by omega) _ _).trans ((Q7O (by omega) _ _).trans ((Q7O (by omega) _ _).trans C))
     have O:Hid (Below w.heap.size w Z):=by
      rw [←z,←t,←v];exact ((j.out.setCell (p:=⟨w.heap.size+1,k * 3,none⟩) (Nat.le_succ _) _).setCell (p:=⟨w.heap.size+1,k * 3+1,none⟩) (Nat.le_succ _) _).setCell (p:=⟨w.heap.size+1,k * 3+2,none⟩) (Nat.le_succ _) _
     clear J G U h C e0 e1 e2 h2 h4 c j HS;go_wp2;go_roundw
     case rel=> exact ⟨k+1,by omega,by go_num,ab.out,R.out,(Qi1 B.out HQ.out),O.out⟩
     case measure=> simp [intOf];omega
   ·have e:k=8:=by omega
    subst e
    have u:A=.tuple #[ptv (QcQ ll 8),.bool true]:=by rw [←L.out,Qb3 H8.out B.out,if_pos rfl];unfold ptv;rw [Qf1]
    clear L;subst u;go_wp2_with (first|(refine Q1S rfl (.tmp 4) rfl (w.heap.size+1) rfl _ V.out ?_)|(refine Q0R rfl (.tmp 2) (.tmp 32) rfl w.heap.size _ ptZ rfl rfl M.out ?_));refine bodyPost_ret (Q6k rfl _ _ w.heap.size _ rfl (setRow_heap _ _ _ _ _ _ M.out)) rfl ⟨rfl,Q4n d.out (Kaq _) _⟩
 ·rw [show Q1r ll=false by unfold Q1r;rw [decide_eq_false h8,Bool.false_and]]
  simp only [Bool.false_eq_true,if_false];have ae:((ll.length:Int)==8)=false:=beq_eq_false_iff_ne.2 (by omega)
  have ad:¬((ll.length:Int)=8):=by omega
  go_enter Tryz.func162,Tryz.ntmps162;go_wp2_with (first|(refine Q1S rfl (.tmp 4) rfl (w.heap.size+1) rfl _ r.out ?_)|(refine Q0R rfl (.tmp 2) (.tmp 12) rfl w.heap.size _ ptZ rfl rfl l.out ?_));refine bodyPost_ret (Q6k rfl _ _ w.heap.size _ rfl (setRow_heap _ _ _ _ _ _ l.out)) rfl ⟨rfl,Q4n n.out (Kaq _) _⟩
theorem Q3R (f:Pt):(Q4h f).length=8:=by simp [Q4h]
theorem Qfu (f:Pt) (k:Nat) (h:k < 8):(Q4h f).take (k+1)=(Q4h f).take k++[Q36 (f k)]:=by
 have hk:k < (Q4h f).length:=by rw [Q3R];exact h
 rw [List.take_succ_eq_append_getElem hk];simp [Q4h]
theorem Qh8 (f:Pt):(Q4h f).take 8=Q4h f:=List.take_of_length_le (by rw [Q3R];exact Kaq _)
theorem Q0x (w:World) (B j:Nat) (u:Value):Stp B (B+1) w (w.setCell ⟨B,j,none⟩ u):=Stp.grown (Q0I w B j u) (fun b e=> by injection e with e;omega)
theorem Q9T (f:Pt) (w:World):
  Calls Tryz.prog 120 #[ptv f] w fun e w'=> ∃v,e=.returned v∧InT w.heap.size w'.heap.size w' v (Q4h f)∧Below w.heap.size w w':=by
 obtain ⟨i0,hi,aj,ab,ak⟩:=info_parts Q6V;obtain ⟨a,E⟩:∃W,(w.alloc (.cells (ptA f) 188))=W:=⟨_,rfl⟩;have X:=alb0v0v1 E
 have z0:a.heap[w.heap.size]? =some (.cells (ptA f) 188 (0,0)):=by rw [←E];exact World.alloc_heap_new w _
 have F:a.heap.size=w.heap.size+1:=by rw [←E];simp
 have HZ:=Q01 z0;have B:=Q01 X;have z:=Q01 F;clear z0 X F;go_enter Tryz.func120,Tryz.ntmps120;go_wp2_with (first|(at_make;refine wpList_make_full _ rfl _ _ 51 rfl a.heap.size 47 i0 (.slice none 0 0) 1 Tryz.underlying51 hi aj ab _ _ _ _ 8 rfl rfl rfl rfl ?b2 ?b3 ?b4 ?_))
 case b2=> rw [ak];omega
 case b3=> unfold maxLen;omega
 case b4=> simp
 intro w3 l n;have D:Below a.heap.size a w3:=(Below.refl _ _).grown n (Kaq _) (fun k h=> by cases h)
 have P:w3.ownsRow (w.heap.size+1) 47 1 (.slice (some ⟨a.heap.size,0,none⟩) 8 8) 8 ((([]:List Hd)++List.replicate (8 - 0) Q0H.d).flatMap Q0H.cs):=by
  rw [List.nil_append,Nat.sub_zero,←Q3B Q0H (.slice none 0 0) rfl,show Q0H.k=1 from rfl,Nat.mul_one];exact Q04 l (by have:=z.out;omega)
 have U:=Q01 ((D.block w.heap.size (by have:=z.out;omega)).trans HZ.out);have V:=Q01 (B.out.trans (D.mono B.out.size));have M:a.heap.size+1≤w3.heap.size:=(l.lt a.heap.size rfl).2;have N:=Q01 P;clear l n D P HZ B;go_wp2_with (first|(refine Q1S rfl (.tmp 1) rfl w.heap.size rfl f U.out ?_))
 go_loopw [8] (fun iv wr=> ∃(k:Nat) (hs:List Hd) (L H:Nat→Nat),k≤8∧iv=.int .i64 (k:Int)∧Hid (wr.ownsRow (w.heap.size+1) 47 1 (.slice (some ⟨a.heap.size,0,none⟩) 8 8) 8 ((hs++List.replicate (8 - k) Q0H.d).flatMap Q0H.cs))∧Hid (Rw InI [] ((Q4h f).take k) (a.heap.size+1) wr.heap.size wr hs L H)∧Hid (Below w.heap.size w wr)∧a.heap.size+1≤wr.heap.size)
  (fun iv _=> 8 - (intOf iv).toNat)
 case atStart=> exact ⟨0,[],fun _=> 0,fun _=> 0,Kcq _,rfl,N.out,by rw [List.take_zero];exact Rw.nil _ _ _ _ _ _ _,V.out,M⟩
 case round=>
  obtain ⟨k,hs,L,H,an,rfl,HO,HR,t,al⟩:=hrel;clear N U V M
  have C:hs.length=k:=by have h1:=HR.out.len;rw [List.length_take,Q3R] at h1;omega
  by_cases hlt:k < 8
  ·have z1:(k:Int) < 8:=by omega
   have HS:=Q01 (Qfu f k hlt);obtain ⟨p,hp⟩:∃p,f k=p:=⟨_,rfl⟩;have HP:=Q01 hp;rw [hp] at HS;clear hp;obtain ⟨s,x,y⟩:=p;obtain ⟨W1,T⟩:∃W,wr.alloc (.cells #[.bool s,.int .i64 x,.int .i64 y] 186)=W:=⟨_,rfl⟩;have j:=alb0v0v1 T;obtain ⟨u0,u1,u2⟩:=alc3v0v1 T;have HL:=Q01 (Qcd (s,x,y) W1);have ah:=Q01 (Q03 HO.out j);have ag:=Q01 (HR.out.kept InI.stp j);have R:=Q01 (t.out.trans (j.mono t.out.size));have ac:=j.size;clear j HO HR t;go_wp2_with (first|(refine Q7M rfl (.tmp 7) (.tmp 8) rfl f k hlt rfl rfl ?_;rw [HP.out])|fail);refine HL.out.mono ?_
   rintro e J ⟨I,G,rfl,Y,g⟩;have A:=Q01 (Q03 ah.out g)
   have af:((hs++List.replicate (8 - k) Q0H.d).flatMap Q0H.cs).length=8:=by rw [Q0n,List.length_append,List.length_replicate,C,show Q0H.k=1 from rfl];omega
   have O:=A.out.cellAt k (by omega);have am:=A.out.frozenAt k;obtain ⟨u,hu⟩:∃u,J.cell? ⟨a.heap.size,k,none⟩=some u:=⟨_,O.trans (List.getElem?_eq_getElem (by omega))⟩;have ad:=Q01 (Q8w (o:=I) (m:=(Q36 (s,x,y)).length) (c:=G) hlt C A.out);have r:=(ag.out.kept InI.stp g).snoc (l2:=W1.heap.size) (h2:=J.heap.size) ac (by omega) g.size (x:=Q36 (s,x,y)) (o:=I) (m:=(Q36 (s,x,y)).length) (c:=G) (InRow.of Y);rw [←HS.out] at r;have Z:=r.step InI.stp (Q0x J a.heap.size k (.slice I (Q36 (s,x,y)).length G)) (fun i hi=> .inl (r.bd i hi).1)
   have aa:Hid (Rw InI [] ((Q4h f).take (k+1)) (a.heap.size+1) (J.setCell ⟨a.heap.size,k,none⟩ (.slice I (Q36 (s,x,y)).length G)).heap.size (J.setCell ⟨a.heap.size,k,none⟩ (.slice I (Q36 (s,x,y)).length G)) _ _ _):=Z.mono (Kaq _) (by simp);have ai:=Q01 ((R.out.trans (g.mono R.out.size)).setCell (p:=⟨a.heap.size,k,none⟩) (show w.heap.size≤a.heap.size by have:=z.out;omega) (.slice I (Q36 (s,x,y)).length G))
   have ae:a.heap.size+1≤J.heap.size:=by have:=g.size;omega
   clear Y g O r Z af HL;generalize (Q36 (s,x,y)).length=q at *;go_wp2;go_roundw
   case rel=> exact ⟨k+1,_,_,_,by omega,by go_num,ad.out,aa.out,ai.out,by simpa using ae⟩
   case measure=> simp [intOf];omega
  ·have e:k=8:=by omega
   subst e;go_wp2;go_ret;have h1:=HO.out;rw [Nat.sub_self,List.replicate_zero,List.append_nil] at h1;have h2:=HR.out;rw [Qh8] at h2;have F:=z.out
   have h3:∀b,(Value.slice (some ⟨a.heap.size,0,none⟩) 8 8).ownBlock=some b→b=a.heap.size:=fun b e=> (Option.some.inj e).symm
   have h4:InT w.heap.size wr.heap.size wr (.slice (some ⟨a.heap.size,0,none⟩) 8 8) (Q4h f):=by
    refine ⟨hs,L,H,⟨Q04 (base:=w.heap.size+1) (by rw [C];exact h1) (Nat.le_succ _),fun b e=> ?_⟩,h2.mono (by omega) (Kaq _),fun i hi b e=> ?_⟩
    ·have:=h3 b e;omega
    ·have:=h3 b e
     have:=h2.bd i hi;omega
   exact ⟨_,rfl,h4,t.out⟩
def okI (x:Sc):Prop:=0≤x.1∧x.1 < 6
def okO (p:Option Sc × Option Sc):Prop:=(∀o,p.1=some o→okI o)∧∀o,p.2=some o→okI o
theorem QbC {p:Option Sc × Option Sc} {x:Sc} (h:okO p) (c:okI x):okO (Q1c p x):=by
 obtain ⟨a,t⟩:=p
 cases a with
 |none=> exact ⟨fun o e=> by cases e;exact c,fun o e=> by cases e⟩
 |some o=>
  have b:=h.1 o rfl;unfold Q1c;dsimp only
  split
  ·exact ⟨fun q e=> by cases e;exact c,fun q e=> by cases e;exact b⟩
  ·cases t with
   |none=> exact ⟨fun q e=> by cases e;exact b,fun q e=> by cases e;exact c⟩
   |some u=>
    have d:=h.2 u rfl;dsimp only
    split
    ·exact ⟨fun q e=> by cases e;exact b,fun q e=> by cases e;exact c⟩
    ·exact ⟨fun q e=> by cases e;exact b,fun q e=> by cases e;exact d⟩
theorem Qc5:∀(l:List Sc) (p:Option Sc × Option Sc),okO p→(∀x∈l,okI x)→okO (l.foldl Q1c p)
 |[],p,h,_=> h
 |x::l,p,h,hl=> Qc5 l (Q1c p x) (QbC h (hl x (by simp))) (fun y hy=> hl y (by simp [hy]))
theorem QgT {l:List Bk} (h:Q0e l=true):∀x∈l,0≤x.1∧x.1 < 6:=fun x b=> by
 obtain ⟨i,hi,e⟩:=List.getElem_of_mem b;have a:=Q1x.1 h i hi;unfold QcI at a;simp only [Bool.and_eq_true] at a;have h2:=Q5m.1 a.1
 have c:l.getD i (0,0,false)=x:=by rw [List.getD_eq_getElem?_getD,List.getElem?_eq_getElem hi,←e];rfl
 rw [c] at h2;exact ⟨h2.1,h2.2.1⟩
theorem Q9d (key b:Int) {l:List Bk} (h:Q0e l=true):Q0T (Q19 key b l)=true:=by
 unfold Q19
 split
 ·have g:okO (Q5T (scL key b l)):=Qc5 _ (none,none) ⟨fun o e=> (nomatch e),fun o e=> (nomatch e)⟩ (fun x d=> by
   unfold scL at d;simp only [List.mem_map,List.mem_filter] at d;obtain ⟨y,⟨i,_⟩,rfl⟩:=d
   exact QgT h y i)
  generalize Q5T (scL key b l)=p at *;obtain ⟨a,t⟩:=p
  cases a with
  |none=> rfl
  |some o=>
   have c:=g.1 o rfl;unfold okI at c
   cases t with
   |none=> simp [Q8i,Q0T,idB,c.1,c.2]
   |some u=>
    have f:=g.2 u rfl;unfold okI at f;simp [Q8i,Q0T,idB,c.1,c.2,f.1,f.2]
 ·rfl
def Q2K (key:Int) (l:List Bk):Pt:=fun b=> QgU (Q19 key b l)
theorem Qal (key:Int) {l:List Bk} (h:Q0e l=true):Q1r (Q3C (fun b=> Q19 key b l) 8)=true:=
 Qb3 (Q1y _ _) (fun i hi=> by rw [Q2k _ _ _ hi];exact Q9d key i h)
theorem QgJ (key:Int) (l:List Bk):ptA (Q38 (Q3C (fun b=> Q19 key b l) 8))=ptA (Q2K key l):=
 QaY (fun i hi=> by unfold Q38 Q2K;rw [Q2k _ _ _ hi])
theorem Q9R (key:Int) {l:List Bk} (h:Q0e l=true):Q4h (Q2K key l)=Q3C (fun b=> Q19 key b l) 8:=by
 unfold Q4h Q3C Q2K;exact List.map_congr_left (fun i hi=> Q4w (Q9d key i h))
theorem Qbw {a:Func} {p:Tmp} (h:a.results=#[.cell p 188]) (tmps:Array Value) (w:World) (g:Nat) (f:Pt) (b:tmps.getD p undef=.pointer (some ⟨g,0,none⟩)) (c:w.heap[g]? =some (.cells (ptA f) 188 (0,0))):
  (results a tmps).run Tryz.prog w=.ok (ptv f) w:=results_cell_row h tmps w g _ (ptA f) (0,0) _ b c ptU rfl (QiV f)
theorem Q1J (key:Int) (o:Option Addr) (cap:Nat) (l:List Bk) (w:World) (D:RdK w.heap.size w o l) (r:l.length≤1048576) (L:Q1P key=true) (G:Q0e l=true):
  Calls Tryz.prog 118 #[.int .i64 key,.slice o l.length cap] w fun e M=> e=.returned (ptv (Q2K key l))∧Below w.heap.size w M:=by
 obtain ⟨F,q⟩:∃W,(w.alloc (.cells #[.bool false,.int .i64 0,.int .i64 0,.bool false,.int .i64 0,.int .i64 0,.bool false,.int .i64 0,.int .i64 0,.bool false,.int .i64 0,.int .i64 0,.bool false,.int .i64 0,.int .i64 0,.bool false,.int .i64 0,.int .i64 0,.bool false,.int .i64 0,.int .i64 0,.bool false,.int .i64 0,.int .i64 0] 188))=W:=⟨_,rfl⟩;have a:=alb0v0v1 q
 have B:F.heap[w.heap.size]? =some (.cells (ptA ptZ) 188 (0,0)):=by rw [←q];exact World.alloc_heap_new w _
 have H:=Q01 (Q7m key o cap l F ((D.kept a (Kaq _)).le a.size) r);have P:=Q01 (show Qgh key l=8 by rw [Qgh,if_pos ⟨L,G⟩]);have x:=Q01 (Qal key G);have R:=Q01 (QgJ key l);have z:=Q01 B;have f:=Q01 a;clear B a D;go_enter Tryz.func118,Tryz.ntmps118;go_wp2_with fail;refine H.out.mono ?_;rintro e O ⟨v,rfl,hv,n⟩;obtain ⟨J,N,rfl,m⟩:=hv.open;rw [P.out] at m ⊢;have t:=Q3L J N (Q3C (fun b=> Q19 key b l) 8) O m (by rw [Q1y];omega) (fun i hi=> by rw [Q1y] at hi;rw [Q2k _ _ _ hi];have:=Q9Z key i l;omega);rw [x.out,if_pos rfl,Q1y] at t;unfold ptv at t
 rw [R.out] at t;have C:=Q01 t;have j:=Q01 (f.out.trans (n.mono f.out.size));have k:=Q01 ((n.block _ (Array.getElem?_eq_some_iff.1 z.out).1).trans z.out);clear hv n m t H;go_wp2_with fail;refine C.out.mono ?_;rintro e p ⟨rfl,h⟩;have d:=Q01 (j.out.trans (h.mono j.out.size));have c:=(h.block _ (Array.getElem?_eq_some_iff.1 k.out).1).trans k.out
 obtain ⟨u,g⟩:∃W,(p.alloc (.cells #[.bool false,.int .i64 0,.int .i64 0,.bool false,.int .i64 0,.int .i64 0,.bool false,.int .i64 0,.int .i64 0,.bool false,.int .i64 0,.int .i64 0,.bool false,.int .i64 0,.int .i64 0,.bool false,.int .i64 0,.int .i64 0,.bool false,.int .i64 0,.int .i64 0,.bool false,.int .i64 0,.int .i64 0] 188))=W:=⟨_,rfl⟩
 have I:Hid (u.heap[p.heap.size]? =some (.cells (ptA ptZ) 188 (0,0))):=by rw [←g];exact World.alloc_heap_new p _
 have E:Hid (u.heap[w.heap.size]? =some (.cells (ptA ptZ) 188 (0,0))):=by rw [←g];exact (Below.heap_alloc _ _ _ (Array.getElem?_eq_some_iff.1 c).1).trans c
 have s:Hid (w.heap.size≠p.heap.size):=Nat.ne_of_lt (Array.getElem?_eq_some_iff.1 c).1
 have A:Hid (Below w.heap.size w u):=by rw [←g];exact d.out.alloc d.out.size _
 have y:w.heap.size≤p.heap.size:=d.out.size;clear h c d C j k f z;go_wp2_with (first|(refine Q0R rfl (.tmp 5) (.tmp 12) rfl p.heap.size (Q2K key l) ptZ rfl rfl I.out ?_)|(refine Q1S rfl (.tmp 5) rfl p.heap.size rfl (Q2K key l) (setRow_heap _ _ _ _ _ _ I.out) ?_)|(refine Q0R rfl (.tmp 4) (.tmp 14) rfl w.heap.size (Q2K key l) ptZ rfl rfl ((setRow_other _ _ _ _ s.out).trans E.out) ?_));refine bodyPost_ret (Qbw rfl _ _ w.heap.size (Q2K key l) rfl (setRow_heap _ _ _ _ _ _ ((setRow_other _ _ _ _ s.out).trans E.out))) rfl ⟨rfl,Q4n (Q4n A.out y _) (Kaq _) _⟩
theorem Qgs (w:World) (c:Array Value) (T:TypeId) (a b:Obj):(((w.alloc a).alloc b).alloc (.cells c T)).heap[w.heap.size+1+1]? =some (.cells c T (0,0)):=by
 have h:=World.alloc_heap_new ((w.alloc a).alloc b) (.cells c T);rw [World.size_alloc,World.size_alloc] at h;exact h
end Go.Proofs.YtpneolgdghbinaaGreat
