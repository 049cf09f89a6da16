/- Several texts in one: SPt, SPt2, SPt3, SPl, SPw, ShP2. -/
import Derived.Deep.MidRow
import Derived.Deep.WholeRow
import Derived.Test.YtpneolgdghbinaaGreatQCrashesL26
namespace Go.Proofs.YtpneolgdghbinaaGreat
open Go.ChangeShapes Go.WideShapes Go.ChangeAt Go.RowKit Go.Joins
set_option linter.unusedVariables false
set_option linter.unusedSimpArgs false
set_option maxRecDepth 100000
set_option maxHeartbeats 40000000
abbrev Ip:=Bool × Int × Int
def Qgs:Lay Ip:=⟨3,fun a=> [.bool a.1,.int .i64 a.2.1,.int .i64 a.2.2],(false,0,0),fun _=>rfl⟩
abbrev ipv (a:Ip):Value:=.agg #[.bool a.1,.int .i64 a.2.1,.int .i64 a.2.2]
def QgA (l:List Int):Ip:=if l.length=0 then(false,0,0)else(true,l.getD 0 0,l.getD 1 0)
def Q2N (a:Ip):List Int:=if a.1=true then[a.2.1,a.2.2]else[]
def idB (x:Int):Bool:=decide (0<=x) && decide (x < 6)
def Q0P (l:List Int):Bool:=decide (l.length=0)||(decide (l.length=2) && idB (l.getD 0 0) && idB (l.getD 1 0))
theorem Q4p {l:List Int} (h:Q0P l=true):Q2N (QgA l)=l:=by
 unfold Q0P at h;simp only[Bool.or_eq_true,Bool.and_eq_true,decide_eq_true_eq]at h
 rcases h with h|⟨⟨h,_⟩,_⟩
 ·have e:l=[]:=List.eq_nil_of_length_eq_zero h
  subst e;rfl
 ·match l,h with
  |[a,b],_=>rfl
theorem Qht (w:World) (x y:Int):Q9U (w.alloc (.cells #[.int .i64 x,.int .i64 y] 3)) w.heap.size (.slice (some ⟨w.heap.size,0,none⟩) 2 2) [x,y]:=
 ⟨by simp[Q2m],.inr ⟨w.heap.size,2,#[.int .i64 x,.int .i64 y],rfl,Kaq _,heap_alloc_new w _,by simp,by unfold maxLen;omega,by simp[Q2m],by simp[Q2m]⟩⟩
theorem Qcw (a:Ip) (w:World):
  Calls Tryz.prog 144 #[ipv a] w fun e b=> ∃o c,e=.returned (.slice o (Q2N a).length c)/\Q9U b w.heap.size (.slice o (Q2N a).length c) (Q2N a)/\Below w.heap.size w b:=by
 obtain⟨s,x,y⟩:=a
 cases s with
 |false=>
  go_enter Tryz.func144,Tryz.ntmps144;go_wp2;go_ret;exact⟨none,0,rfl,KLq _ _ _ _,by(repeat (first|with_reducible (first|exact hB|exact KBq|refine KHq ?_|refine below_drewN ?_ _|refine KOq ?_ ?_ _|refine KNq ?_ ?_ _)|(focus (simp;first|done|omega))|omega))⟩
 |true=>
  go_enter Tryz.func144,Tryz.ntmps144;go_wp2;go_ret;have h:=Qht (w.alloc (.cells #[.bool true,.int .i64 x,.int .i64 y] 186)) x y;rw[World.size_alloc]at h;exact⟨_,_,rfl,Q04 h (Nat.le_succ _),by(repeat (first|with_reducible (first|exact hB|exact KBq|refine KHq ?_|refine below_drewN ?_ _|refine KOq ?_ ?_ _|refine KNq ?_ ?_ _)|(focus (simp;first|done|omega))|omega))⟩
theorem Q88 (x:Int) (w:World):Calls Tryz.prog 61 #[.int .i64 x] w fun e w'=>e=.returned (.bool (idB x))/\w=w':=Q3A x w
theorem Q8n (o:Option Addr) (cap:Nat) (l:List Int) (w:World) (g:RdI w.heap.size w o l) (i:l.length<=1048576):
  Calls Tryz.prog 183 #[.slice o l.length cap] w fun e m=>e=.returned (.tuple #[ipv (if Q0P l=true then QgA l else(false,0,0)),.bool (Q0P l)])/\Below w.heap.size w m:=by
 by_cases h0:l.length=0
 ·have e:l=[]:=List.eq_nil_of_length_eq_zero h0
  subst e;rw[show Q0P []=true from rfl,show QgA []=(false,0,0)from rfl];simp only[if_true];go_enter Tryz.func183,Tryz.ntmps183;go_wp2;refine bodyPost_ret (v:=.tuple #[ipv (false,0,0),.bool true]) (by simp[results,Tryz.results183,go_sem]) rfl ⟨rfl,by(repeat (first|with_reducible (first|exact hB|exact KBq|refine KHq ?_|refine below_drewN ?_ _|refine KOq ?_ ?_ _|refine KNq ?_ ?_ _)|(focus (simp;first|done|omega))|omega))⟩
 ·by_cases h2:l.length=2
  ·match l,h2 with
   |[x,y],_=>
    rcases g with g|⟨b,off,rfl,k,a⟩
    ·cases g
    have n:w.cell? ⟨b,off,none⟩=some (.int .i64 x):=a 0 (by simp) 0 (by decide);have p:w.cell? ⟨b,off+1,none⟩=some (.int .i64 y):=a 1 (by simp) 0 (by decide)
    have c:=fun w=>Q88 x w
    have d:=fun w=>Q88 y w
    have h:Q0P [x,y]=(idB x && idB y):=by simp[Q0P]
    rw[h,show QgA [x,y]=(true,x,y)from rfl];clear a h
    cases h3:idB x with
    |false=>
     rw[h3]at c;try simp only[Bool.false_and,Bool.true_and,Bool.false_eq_true,if_false];go_enter Tryz.func183,Tryz.ntmps183;go_wp2_with (first|(go_at_call 61;refine(c _).mono ?_;rintro e f ⟨rfl,rfl⟩));refine bodyPost_ret (v:=.tuple #[ipv (false,0,0),.bool false]) (by simp[results,Tryz.results183,go_sem]) rfl ⟨rfl,by(repeat (first|with_reducible (first|exact hB|exact KBq|refine KHq ?_|refine below_drewN ?_ _|refine KOq ?_ ?_ _|refine KNq ?_ ?_ _)|(focus (simp;first|done|omega))|omega))⟩
    |true=>
     rw[h3]at c;try simp only[Bool.false_and,Bool.true_and,Bool.false_eq_true,if_false]
     cases h4:idB y with
     |false=>
      rw[h4]at d;simp only[Bool.false_eq_true,if_false,if_true];go_enter Tryz.func183,Tryz.ntmps183;go_wp2_with (first|(go_at_call 61;first|(refine(c _).mono ?_;rintro e f ⟨rfl,rfl⟩)|(refine(d _).mono ?_;rintro e f ⟨rfl,rfl⟩)));refine bodyPost_ret (v:=.tuple #[ipv (false,0,0),.bool false]) (by simp[results,Tryz.results183,go_sem]) rfl ⟨rfl,by(repeat (first|with_reducible (first|exact hB|exact KBq|refine KHq ?_|refine below_drewN ?_ _|refine KOq ?_ ?_ _|refine KNq ?_ ?_ _)|(focus (simp;first|done|omega))|omega))⟩
     |true=>
      rw[h4]at d;simp only[Bool.false_eq_true,if_false,if_true];go_enter Tryz.func183,Tryz.ntmps183;go_wp2_with (first|(go_at_call 61;first|(refine(c _).mono ?_;rintro e f ⟨rfl,rfl⟩)|(refine(d _).mono ?_;rintro e f ⟨rfl,rfl⟩)))
      go_region
      all_goals (go_wp2;refine bodyPost_ret (v:=.tuple #[ipv (true,x,y),.bool true]) (by simp[results,Tryz.results183,go_sem]) rfl ⟨rfl,by(repeat (first|with_reducible (first|exact hB|exact KBq|refine KHq ?_|refine below_drewN ?_ _|refine KOq ?_ ?_ _|refine KNq ?_ ?_ _)|(focus (simp;first|done|omega))|omega))⟩)
  ·rw[show Q0P l=false by simp[Q0P,h0,h2]]
   simp only[Bool.false_eq_true,if_false];have j:((l.length:Int)==2)=false:=beq_eq_false_iff_ne.2 (by omega);go_enter Tryz.func183,Tryz.ntmps183;go_wp2;refine bodyPost_ret (v:=.tuple #[ipv (false,0,0),.bool false]) (by simp[results,Tryz.results183,go_sem]) rfl ⟨rfl,by(repeat (first|with_reducible (first|exact hB|exact KBq|refine KHq ?_|refine below_drewN ?_ _|refine KOq ?_ ?_ _|refine KNq ?_ ?_ _)|(focus (simp;first|done|omega))|omega))⟩
abbrev Pt:=Nat->Ip
def ptL (f:Pt):List Value:=((List.range 8).map f).flatMap Qgs.cs
def ptA (f:Pt):Array Value:=(ptL f).toArray
abbrev ptv (f:Pt):Value:=.agg (ptA f)
def ptZ:Pt:=fun _=>(false,0,0)
def upd (f:Pt) (k:Nat) (p:Ip):Pt:=fun i=>if i=k then p else f i
theorem Q4g {B g:Nat} {b w:World} (a:Below B b w) (c:B<=g) (cs:Array Value):Below B b (w.setRow g cs):=⟨a.os,a.tape,a.output,by simpa using a.size,fun k d=>(setRow_other w g k cs (by omega)).trans (a.block k d)⟩
theorem QaY (f:Pt):(ptL f).length=24:=rfl
theorem Qcc (f:Pt):(ptA f).size=24:=rfl
theorem Qi2 (f:Pt) (k:Nat) (p:Ip):((List.range 8).map f).set k p=(List.range 8).map (upd f k p):=by
 apply List.ext_getElem
 ·simp
 ·intro i b h2
  simp at b h2
  by_cases h:k=i
  ·subst h;simp[upd]
  ·have a:¬i=k:=fun e=>h e.symm
   simp[upd,h,a,List.getElem_set]
theorem QhY (f:Pt) (k:Nat) (p:Ip):(((ptL f).set (k * 3) (.bool p.1)).set (k * 3+1) (.int .i64 p.2.1)).set (k * 3+2) (.int .i64 p.2.2)=ptL (upd f k p):=by
 unfold ptL;rw[<-Qi2];exact QaQ Qgs rfl rfl _ k
theorem Qhw (f:Pt) (k:Nat) (p:Ip):(((ptA f).setIfInBounds (k * 3) (.bool p.1)).setIfInBounds (k * 3+1) (.int .i64 p.2.1)).setIfInBounds (k * 3+2) (.int .i64 p.2.2)=ptA (upd f k p):=by
 unfold ptA;rw[<-QhY];simp
theorem QbP (f:Pt) (j:Nat) (h:j < 24):∃u,(ptA f)[j]? =some u:=⟨_,Array.getElem?_eq_getElem (by rw[Qcc];exact h)⟩
theorem Qca (f:Pt) (k:Nat) (h:k < 8):(ptA f).extract (k * 3) (k * 3+3)=#[.bool (f k).1,.int .i64 (f k).2.1,.int .i64 (f k).2.2]:=by
 match k,h with
 |0,_=>rfl
 |1,_=>rfl
 |2,_=>rfl
 |3,_=>rfl
 |4,_=>rfl
 |5,_=>rfl
 |6,_=>rfl
 |7,_=>rfl
 |n+8,h=>exact absurd h (by omega)
theorem Qhs (f:Pt):(ptA f).all (·.oneCell')=true:=all_oneCell_toArray (fun v hv=>by
 unfold ptL at hv;simp only[List.mem_flatMap,Qgs,List.mem_cons,List.not_mem_nil,or_false]at hv
 obtain⟨a,_,rfl|rfl|rfl⟩:=hv <;> rfl)
theorem ptU:Tryz.prog.underlying 188=some (.array 8 186):=by kernel_rfl
theorem ptI:(Tryz.prog.info? 188).map (·.size)=some 24:=by kernel_rfl
theorem QiE (f:Pt):(Tryz.prog.info? 188).map (·.size)=some (ptA f).size:=ptI
theorem ipI:(Tryz.prog.info? 186).map (·.size)=some 3:=by kernel_rfl
theorem QhT (w:World):(isAgg 186).run Tryz.prog w=.ok true w:=by
 simp[go_sem]
theorem QdQ (w:World):(sizeOf 186).run Tryz.prog w=.ok 3 w:=by
 have h:=ipI
 cases hq:Tryz.prog.info? 186 with
 |none=>simp[hq]at h
 |some i=>
  simp[hq]at h;simp[sizeOf,typeInfo,hq,h]
theorem Q1L {b:Array Oper} {rest:List Oper} {o:Oper} {a:Act} {w:World} {Q:Exit->Act->World->Prop} (c:o.guard=none) (x:Operand) (i:o.op=.load 188 x)
  (g:Nat) (j:a.eval x=.pointer (some ⟨g,0,none⟩)) (f:Pt) (d:w.heap[g]? =some (.cells (ptA f) 188 (0,0)))
  (h:wpList Tryz.prog b Q rest (a.put o.dst (ptv f)) w):wpList Tryz.prog b Q (o::rest) a w:=
 wpList_load_row c _ x i g j _ _ _ _ d ptU rfl (QiE f) h
theorem Q0M {b:Array Oper} {rest:List Oper} {o:Oper} {a:Act} {w:World} {Q:Exit->Act->World->Prop} (c:o.guard=none) (x y:Operand) (j:o.op=.store 188 x y)
  (g:Nat) (f d:Pt) (k:a.eval x=.pointer (some ⟨g,0,none⟩)) (l:a.eval y=ptv f) (i:w.heap[g]? =some (.cells (ptA d) 188 (0,0)))
  (h:wpList Tryz.prog b Q rest (a.put o.dst undef) (w.setRow g (ptA f))):wpList Tryz.prog b Q (o::rest) a w:=
 wpList_store_row c _ x y j g (ptA f) k l _ _ i (QiE f) rfl (Qhs f) h
theorem Q75 {b:Array Oper} {rest:List Oper} {o:Oper} {a:Act} {w:World} {Q:Exit->Act->World->Prop} (c:o.guard=none) (x g:Operand) (j:o.op=.index 188 x g)
  (f:Pt) (k:Nat) (i:k < 8) (l:a.eval x=ptv f) (hi:a.eval g=.int .i64 (k:Int))
  (h:wpList Tryz.prog b Q rest (a.put o.dst (ipv (f k))) w):wpList Tryz.prog b Q (o::rest) a w:=
 wpList_plain c fun _ hK=>by
  have d:(k:Int) < 8:=by omega
  unfold Oper.wp execOp;simp only[j,l,hi,Instr.index,asIntOf,Sem.run_bind,Sem.run_pure,Result.andThen_ok,run_underlying ptU,part,QhT,QdQ];simp[d,Qca f k i,part,QhT,QdQ,Sem.run_bind];exact hK _ _ h
def Q1j (ll:List (List Int)):Bool:=decide (ll.length=8) && (List.range 8).all (fun i=>Q0P (ll.getD i []))
def Q30 (ll:List (List Int)):Pt:=fun i=>QgA (ll.getD i [])
def Qc5 (ll:List (List Int)) (k:Nat):Pt:=fun i=>if i < k then QgA (ll.getD i [])else(false,0,0)
def Q41 (f:Pt):List (List Int):=(List.range 8).map (fun i=>Q2N (f i))
theorem Q9X {f g:Pt} (h:∀i,i < 8->f i=g i):ptA f=ptA g:=by
 unfold ptA ptL;rw[List.map_congr_left (fun a ha=>h a (by simpa using ha))]
theorem Q7z {w:World} {B b:Nat} (h:b≠B) (j:Nat) (u:Value):(w.setCell ⟨B,j,none⟩ u).heap[b]? =w.heap[b]? :=by
 by_cases hb:b < w.heap.size
 ·exact(Q0H w B j u).block b hb (by simp[h])
 ·have a:w.heap[b]? =none:=Array.getElem?_eq_none (by omega)
  have h2:(w.setCell ⟨B,j,none⟩ u).heap[b]? =none:=Array.getElem?_eq_none (by simp;omega);rw[a,h2]
theorem Qdf (ll:List (List Int)):Qc5 ll 0=ptZ:=by funext i;simp[Qc5,ptZ]
theorem Qf0 (ll:List (List Int)):ptA (Qc5 ll 8)=ptA (Q30 ll):=Q9X (fun i hi=>by simp[Qc5,Q30,hi])
theorem Qec (ll:List (List Int)) (k:Nat):upd (Qc5 ll k) k (QgA (ll.getD k []))=Qc5 ll (k+1):=by
 funext i
 unfold upd Qc5
 by_cases h:i=k
 ·subst h;simp
 ·by_cases h2:i < k
  ·simp[h,h2,show i < k+1 by omega]
  ·simp[h,h2,show ¬i < k+1 by omega]
theorem Qgm {ll:List (List Int)} {k:Nat} (a:k < 8) (h:Q0P (ll.getD k [])=false):Q1j ll=false:=by
 unfold Q1j
 have:(List.range 8).all (fun i=>Q0P (ll.getD i []))=false:=by
  rw[List.all_eq_false];exact⟨k,by simpa using a,by rw[h];simp⟩
 rw[this,Bool.and_false]
theorem Qak {ll:List (List Int)} (a:ll.length=8) (h:∀i,i < 8->Q0P (ll.getD i [])=true):Q1j ll=true:=by
 unfold Q1j;rw[decide_eq_true a,Bool.true_and,List.all_eq_true]
 exact fun i hi=>h i (by simpa using hi)
theorem Qhi {ll:List (List Int)} {k:Nat} (h:∀i,i < k->Q0P (ll.getD i [])=true) (b:Q0P (ll.getD k [])=true):∀i,i < k+1->Q0P (ll.getD i [])=true:=fun i hi=>by
 rcases Nat.lt_succ_iff_lt_or_eq.1 hi with a|a
 ·exact h i a
 ·subst a;exact b
theorem Q65 {b:Func} {p q:Tmp} (h:b.results=#[.cell p 188,.tmp q]) (tmps:Array Value) (w:World) (g:Nat) (f:Pt) (d:tmps.getD p undef=.pointer (some ⟨g,0,none⟩)) (c:w.heap[g]? =some (.cells (ptA f) 188 (0,0))):
  (results b tmps).run Tryz.prog w=.ok (.tuple #[ptv f,tmps.getD q undef]) w:=by
 have a:tmps[p]?.getD undef=.pointer (some ⟨g,0,none⟩):=by simpa using d
 simp[results,h,a,asAddr,run_loadVar_row w g 188 188 (ptA f) (0,0) _ c ptU rfl (QiE f)]
theorem Q3l (o:Option Addr) (cap:Nat) (ll:List (List Int)) (w:World) (hR:RdLL w.heap.size w o ll) (hl:ll.length<=1048576) (hx:∀i,i < ll.length->(ll.getD i []).length<=1048576):
  Calls Tryz.prog 162 #[.slice o ll.length cap] w fun e w'=>e=.returned (.tuple #[ptv (if Q1j ll=true then Q30 ll else ptZ),.bool (Q1j ll)])/\Below w.heap.size w w':=by
 obtain⟨X,f⟩:∃W,((w.alloc (.cells #[.bool false,.int .i64 0,.int .i64 0,.bool false,.int .i64 0,.int .i64 0,.bool false,.int .i64 0,.int .i64 0,.bool false,.int .i64 0,.int .i64 0,.bool false,.int .i64 0,.int .i64 0,.bool false,.int .i64 0,.int .i64 0,.bool false,.int .i64 0,.int .i64 0,.bool false,.int .i64 0,.int .i64 0] 188)).alloc (.cells #[.bool false,.int .i64 0,.int .i64 0,.bool false,.int .i64 0,.int .i64 0,.bool false,.int .i64 0,.int .i64 0,.bool false,.int .i64 0,.int .i64 0,.bool false,.int .i64 0,.int .i64 0,.bool false,.int .i64 0,.int .i64 0,.bool false,.int .i64 0,.int .i64 0,.bool false,.int .i64 0,.int .i64 0] 188))=W:=⟨_,rfl⟩
 have G:=alb0v0v2 f
 have I:X.heap[w.heap.size]? =some (.cells (ptA ptZ) 188 (0,0)):=by rw[<-f];exact Q3P w _ _ _
 have J:X.heap[w.heap.size+1]? =some (.cells (ptA ptZ) 188 (0,0)):=by rw[<-f];exact Q1P w _ _ _
 have aa:X.heap.size=w.heap.size+1+1:=by rw[<-f];simp
 have n:=Q02 G;have h:=Q02 I;have r:=Q02 J;clear G I J
 by_cases h8:ll.length=8
 ·rw[h8]
  have T:=Q02 h8;clear h8 hl;have HR:=Q02 hR;have HX:=Q02 hx;clear hR hx;obtain⟨A,hA⟩:∃A,(.tuple #[ptv (if Q1j ll=true then Q30 ll else ptZ),.bool (Q1j ll)]:Value)=A:=⟨_,rfl⟩;rw[hA];have M:=Q02 hA;clear hA;go_enter Tryz.func162,Tryz.ntmps162;go_wp2
  go_loopw [15] (fun iv wr=> ∃k:Nat,k<=8/\iv=.int .i64 (k:Int)/\Hid (wr.heap[w.heap.size]? =some (.cells (ptA ptZ) 188 (0,0)))/\Hid (wr.heap[w.heap.size+1]? =some (.cells (ptA (Qc5 ll k)) 188 (0,0)))/\Hid (∀i,i < k->Q0P (ll.getD i [])=true)/\Hid (Below w.heap.size w wr))
   (fun iv _=> 8 - (intOf iv).toNat)
  case atStart=>exact⟨0,Kcq _,rfl,h.out,by rw[Qdf];exact r.out,fun i hi=>absurd hi (KMq _),n.out⟩
  case round=>
   obtain⟨k,hk,rfl,L,P,B,d⟩:=hrel;clear h r n aa f;have ac:=(KEq P.out)
   by_cases hlt:k < 8
   ·have ad:(k:Int) < 8:=by omega
    obtain⟨b,off,o',c',rfl,hb,hc,hr⟩:=((HR.out.kept d.out (Kaq _)).le d.out.size).at (Kaq _) k (by rw[T.out];exact hlt);have m:=Q8n o' c' (ll.getD k []) wr hr (HX.out k (by rw[T.out];exact hlt));clear hr
    cases hq:Q0P (ll.getD k [])with
    |false=>
     rw[hq]at m;simp only[Bool.false_eq_true,if_false]at m
     have t:A=.tuple #[ptv ptZ,.bool false]:=by rw[<-M.out,Qgm hlt hq];rfl
     clear hq M;subst t;generalize (ll.getD k []).length=q at *;go_wp2_with fail;refine m.mono ?_;rintro e N ⟨rfl,a⟩;have h2:=Q02 ((a.block _ (show w.heap.size < wr.heap.size by omega)).trans L.out);have c:=Q02 (d.out.trans (a.mono d.out.size));have ab:=a.size;clear a m;have H2':Hid ((N.alloc (.cells #[.bool false,.int .i64 0,.int .i64 0] 186)).heap[w.heap.size]? =some (.cells (ptA ptZ) 188 (0,0))):=(Below.heap_alloc _ _ _ (by omega)).trans h2.out
     have g:Hid (Below w.heap.size w (N.alloc (.cells #[.bool false,.int .i64 0,.int .i64 0] 186))):=c.out.alloc c.out.size _;clear c h2;go_wp2_with (first|(refine Q0M rfl (.tmp 2) (.tmp 27) rfl w.heap.size ptZ ptZ rfl rfl H2'.out ?_));refine bodyPost_ret (Q65 rfl _ _ w.heap.size ptZ rfl (setRow_heap _ _ _ _ _ _ H2'.out)) rfl ⟨rfl,Q4g g.out (Kaq _) _⟩
    |true=>
     rw[hq]at m;simp only[if_true]at m;have HQ:=Q02 hq;have V:=Q02 (Qec ll k);obtain⟨p,H⟩:∃p,QgA (ll.getD k [])=p:=⟨_,rfl⟩;rw[H]at m V;clear H hq;obtain⟨s,x,y⟩:=p;generalize (ll.getD k []).length=q at *;go_wp2_with fail;refine m.mono ?_;rintro e N ⟨rfl,a⟩;have h2:=Q02 ((a.block _ (show w.heap.size < wr.heap.size by omega)).trans L.out);have h4:=Q02 ((a.block _ ac).trans P.out);have c:=Q02 (d.out.trans (a.mono d.out.size));have ab:=a.size;clear a m;obtain⟨C,l⟩:∃W,N.alloc (.cells #[.bool s,.int .i64 x,.int .i64 y] 186)=W:=⟨_,rfl⟩
     have D:C.heap[w.heap.size]? =some (.cells (ptA ptZ) 188 (0,0)):=by rw[<-l];exact(Below.heap_alloc _ _ _ (by omega)).trans h2.out
     have j:C.heap[w.heap.size+1]? =some (.cells (ptA (Qc5 ll k)) 188 (0,0)):=by rw[<-l];exact(Below.heap_alloc _ _ _ (by omega)).trans h4.out
     obtain⟨u0,u1,u2⟩:=alc3v0v1 l
     have g:Hid (Below w.heap.size w C):=by rw[<-l];exact c.out.alloc c.out.size _
     obtain⟨q0,e0⟩:=QbP (Qc5 ll k) (k * 3) (by omega);obtain⟨q1,e1⟩:=QbP (Qc5 ll k) (k * 3+1) (by omega);obtain⟨q2,e2⟩:=QbP (Qc5 ll k) (k * 3+2) (by omega);have a0:C.cell? ⟨w.heap.size+1,k * 3,none⟩=some q0:=Q00 j _ _ e0;have g0:=Q01 j (k * 3);have E:=Q05 j (k * 3) (.bool s);obtain⟨W2,u⟩:∃W,C.setCell ⟨w.heap.size+1,k * 3,none⟩ (.bool s)=W:=⟨_,rfl⟩;rw[u]at E;have a1:W2.cell? ⟨w.heap.size+1,k * 3+1,none⟩=some q1:=Q00 E _ _ (by rw[Array.getElem?_setIfInBounds_ne (by omega)];exact e1);have g1:=Q01 E (k * 3+1);have F:=Q05 E (k * 3+1) (.int .i64 x)
     obtain⟨W3,v⟩:∃W,W2.setCell ⟨w.heap.size+1,k * 3+1,none⟩ (.int .i64 x)=W:=⟨_,rfl⟩;rw[v]at F;have a2:W3.cell? ⟨w.heap.size+1,k * 3+2,none⟩=some q2:=Q00 F _ _ (by rw[Array.getElem?_setIfInBounds_ne (by omega),Array.getElem?_setIfInBounds_ne (by omega)];exact e2);have g2:=Q01 F (k * 3+2);have Z:=Q05 F (k * 3+2) (.int .i64 y);obtain⟨Y,z⟩:∃W,W3.setCell ⟨w.heap.size+1,k * 3+2,none⟩ (.int .i64 y)=W:=⟨_,rfl⟩;rw[z]at Z
     have R:Hid (Y.heap[w.heap.size+1]? =some (.cells (ptA (Qc5 ll (k+1))) 188 (0,0))):=by rw[<-V.out,<-Qhw];exact Z
     have O:Hid (Y.heap[w.heap.size]? =some (.cells (ptA ptZ) 188 (0,0))):=by
      rw[<-z,<-v,<-u];exact(Q7z (by omega) _ _).trans ((Q7z (by omega) _ _).trans ((Q7z (by omega) _ _).trans D))
     have U:Hid (Below w.heap.size w Y):=by
      rw[<-z,<-v,<-u];exact((g.out.setCell (p:=⟨w.heap.size+1,k * 3,none⟩) (Nat.le_succ _) _).setCell (p:=⟨w.heap.size+1,k * 3+1,none⟩) (Nat.le_succ _) _).setCell (p:=⟨w.heap.size+1,k * 3+2,none⟩) (Nat.le_succ _) _
     clear E F Z j D e0 e1 e2 h2 h4 c g V;go_wp2;go_roundw
     case rel=>exact⟨k+1,by omega,by go_num,O.out,R.out,(Qhi B.out HQ.out),U.out⟩
     case measure=>simp[intOf];omega
   ·have e:k=8:=by omega
    subst e
    have t:A=.tuple #[ptv (Qc5 ll 8),.bool true]:=by rw[<-M.out,Qak T.out B.out,if_pos rfl];unfold ptv;rw[Qf0]
    clear M;subst t;go_wp2_with (first|(refine Q1L rfl (.tmp 4) rfl (w.heap.size+1) rfl _ P.out ?_)|(refine Q0M rfl (.tmp 2) (.tmp 32) rfl w.heap.size _ ptZ rfl rfl L.out ?_));refine bodyPost_ret (Q65 rfl _ _ w.heap.size _ rfl (setRow_heap _ _ _ _ _ _ L.out)) rfl ⟨rfl,Q4g d.out (Kaq _) _⟩
 ·rw[show Q1j ll=false by unfold Q1j;rw[decide_eq_false h8,Bool.false_and]]
  simp only[Bool.false_eq_true,if_false];have ae:((ll.length:Int)==8)=false:=beq_eq_false_iff_ne.2 (by omega)
  have af:¬((ll.length:Int)=8):=by omega
  go_enter Tryz.func162,Tryz.ntmps162;go_wp2_with (first|(refine Q1L rfl (.tmp 4) rfl (w.heap.size+1) rfl _ r.out ?_)|(refine Q0M rfl (.tmp 2) (.tmp 12) rfl w.heap.size _ ptZ rfl rfl h.out ?_));refine bodyPost_ret (Q65 rfl _ _ w.heap.size _ rfl (setRow_heap _ _ _ _ _ _ h.out)) rfl ⟨rfl,Q4g n.out (Kaq _) _⟩
theorem Q3W (f:Pt):(Q41 f).length=8:=by simp[Q41]
theorem QeX (f:Pt) (k:Nat) (h:k < 8):(Q41 f).take (k+1)=(Q41 f).take k++[Q2N (f k)]:=by
 have hk:k < (Q41 f).length:=by rw[Q3W];exact h
 rw[List.take_succ_eq_append_getElem hk];simp[Q41]
theorem QfO (f:Pt):(Q41 f).take 8=Q41 f:=List.take_of_length_le (by rw[Q3W];exact Kaq _)
theorem Q0w (w:World) (B j:Nat) (u:Value):Stp B (B+1) w (w.setCell ⟨B,j,none⟩ u):=Stp.grown (Q0H w B j u) (fun b e=>by injection e with e;omega)
theorem Qad (f:Pt) (w:World):
  Calls Tryz.prog 120 #[ptv f] w fun e w'=> ∃v,e=.returned v/\InT w.heap.size w'.heap.size w' v (Q41 f)/\Below w.heap.size w w':=by
 obtain⟨i0,hi,ai,aj,ak⟩:=info_parts Q6W;obtain⟨a,C⟩:∃W,(w.alloc (.cells (ptA f) 188))=W:=⟨_,rfl⟩;have U:=alb0v0v1 C
 have z0:a.heap[w.heap.size]? =some (.cells (ptA f) 188 (0,0)):=by rw[<-C];exact World.alloc_heap_new w _
 have F:a.heap.size=w.heap.size+1:=by rw[<-C];simp
 have HZ:=Q02 z0;have A:=Q02 U;have z:=Q02 F;clear z0 U F;go_enter Tryz.func120,Tryz.ntmps120;go_wp2_with (first|(at_make;refine wpList_make_full _ rfl _ _ 51 rfl a.heap.size 47 i0 (.slice none 0 0) 1 Tryz.underlying51 hi ai aj _ _ _ _ 8 rfl rfl rfl rfl ?b2 ?b3 ?b4 ?_))
 case b2=>rw[ak];omega
 case b3=>unfold maxLen;omega
 case b4=>simp
 intro w3 n l;have D:Below a.heap.size a w3:=KBq.grown l (Kaq _) (fun k h=>by cases h)
 have X:w3.ownsRow (w.heap.size+1) 47 1 (.slice (some ⟨a.heap.size,0,none⟩) 8 8) 8 ((([]:List Hd)++List.replicate (8 - 0) Q0E.d).flatMap Q0E.cs):=by
  rw[List.nil_append,Nat.sub_zero,<-Q3B Q0E (.slice none 0 0) rfl,show Q0E.k=1 from rfl,Nat.mul_one];exact Q04 n (by have:=z.out;omega)
 have R:=Q02 ((D.block w.heap.size (by have:=z.out;omega)).trans HZ.out);have N:=Q02 (A.out.trans (D.mono A.out.size));have Y:a.heap.size+1<=w3.heap.size:=(n.lt a.heap.size rfl).2;have O:=Q02 X;clear n l D X HZ A;go_wp2_with (first|(refine Q1L rfl (.tmp 1) rfl w.heap.size rfl f R.out ?_))
 go_loopw [8] (fun iv wr=> ∃(k:Nat) (hs:List Hd) (L H:Nat->Nat),k<=8/\iv=.int .i64 (k:Int)/\Hid (wr.ownsRow (w.heap.size+1) 47 1 (.slice (some ⟨a.heap.size,0,none⟩) 8 8) 8 ((hs++List.replicate (8 - k) Q0E.d).flatMap Q0E.cs))/\Hid (Rw InI [] ((Q41 f).take k) (a.heap.size+1) wr.heap.size wr hs L H)/\Hid (Below w.heap.size w wr)/\a.heap.size+1<=wr.heap.size)
  (fun iv _=> 8 - (intOf iv).toNat)
 case atStart=>exact⟨0,[],fun _=> 0,fun _=> 0,Kcq _,rfl,O.out,by rw[List.take_zero];exact Rw.nil _ _ _ _ _ _ _,N.out,Y⟩
 case round=>
  obtain⟨k,hs,L,H,am,rfl,HO,HR,r,an⟩:=hrel;clear O R N Y
  have E:hs.length=k:=by have h1:=HR.out.len;rw[List.length_take,Q3W]at h1;omega
  by_cases hlt:k < 8
  ·have z1:(k:Int) < 8:=by omega
   have HS:=Q02 (QeX f k hlt);obtain⟨p,hp⟩:∃p,f k=p:=⟨_,rfl⟩;have HP:=Q02 hp;rw[hp]at HS;clear hp;obtain⟨s,x,y⟩:=p;obtain⟨W1,T⟩:∃W,wr.alloc (.cells #[.bool s,.int .i64 x,.int .i64 y] 186)=W:=⟨_,rfl⟩;have j:=alb0v0v1 T;obtain⟨u0,u1,u2⟩:=alc3v0v1 T;have HL:=Q02 (Qcw (s,x,y) W1);have ab:=Q02 (Q03 HO.out j);have ad:=Q02 (HR.out.kept InI.stp j);have M:=Q02 (r.out.trans (j.mono r.out.size));have ag:=j.size;clear j HO HR r;go_wp2_with (first|(refine Q75 rfl (.tmp 7) (.tmp 8) rfl f k hlt rfl rfl ?_;rw[HP.out])|fail);refine HL.out.mono ?_
   rintro e J ⟨I,G,rfl,Z,g⟩;have B:=Q02 (Q03 ab.out g)
   have af:((hs++List.replicate (8 - k) Q0E.d).flatMap Q0E.cs).length=8:=by rw[Q0l,List.length_append,List.length_replicate,E,show Q0E.k=1 from rfl];omega
   have V:=B.out.cellAt k (by omega);have al:=B.out.frozenAt k;obtain⟨u,hu⟩:∃u,J.cell? ⟨a.heap.size,k,none⟩=some u:=⟨_,V.trans (KGq (by omega))⟩;have ac:=Q02 (Q8M (o:=I) (m:=(Q2N (s,x,y)).length) (c:=G) hlt E B.out);have t:=(ad.out.kept InI.stp g).snoc (l2:=W1.heap.size) (h2:=J.heap.size) ag (by omega) g.size (x:=Q2N (s,x,y)) (o:=I) (m:=(Q2N (s,x,y)).length) (c:=G) (InRow.of Z);rw[<-HS.out]at t;have P:=t.step InI.stp (Q0w J a.heap.size k (.slice I (Q2N (s,x,y)).length G)) (fun i hi=> .inl (t.bd i hi).1)
   have ae:Hid (Rw InI [] ((Q41 f).take (k+1)) (a.heap.size+1) (J.setCell ⟨a.heap.size,k,none⟩ (.slice I (Q2N (s,x,y)).length G)).heap.size (J.setCell ⟨a.heap.size,k,none⟩ (.slice I (Q2N (s,x,y)).length G)) _ _ _):=P.mono (Kaq _) (by simp);have aa:=Q02 ((M.out.trans (g.mono M.out.size)).setCell (p:=⟨a.heap.size,k,none⟩) (show w.heap.size<=a.heap.size by have:=z.out;omega) (.slice I (Q2N (s,x,y)).length G))
   have ah:a.heap.size+1<=J.heap.size:=by have:=g.size;omega
   clear Z g V t P af HL;generalize (Q2N (s,x,y)).length=q at *;go_wp2;go_roundw
   case rel=>exact⟨k+1,_,_,_,by omega,by go_num,ac.out,ae.out,aa.out,by simpa using ah⟩
   case measure=>simp[intOf];omega
  ·have e:k=8:=by omega
   subst e;go_wp2;go_ret;have h1:=HO.out;rw[Nat.sub_self,List.replicate_zero,List.append_nil]at h1;have h2:=HR.out;rw[QfO]at h2;have F:=z.out
   have h3:∀b,(Value.slice (some ⟨a.heap.size,0,none⟩) 8 8).ownBlock=some b->b=a.heap.size:=fun b e=>(Option.some.inj e).symm
   have h4:InT w.heap.size wr.heap.size wr (.slice (some ⟨a.heap.size,0,none⟩) 8 8) (Q41 f):=by
    refine⟨hs,L,H,⟨Q04 (base:=w.heap.size+1) (by rw[E];exact h1) (Nat.le_succ _),fun b e=>?_⟩,h2.mono (by omega) (Kaq _),fun i hi b e=>?_⟩
    ·have:=h3 b e;omega
    ·have:=h3 b e
     have:=h2.bd i hi;omega
   exact⟨_,rfl,h4,r.out⟩
def okI (x:Sc):Prop:=0<=x.1/\x.1 < 6
def okO (p:Option Sc × Option Sc):Prop:=(∀o,p.1=some o->okI o)/\∀o,p.2=some o->okI o
theorem Qbf {p:Option Sc × Option Sc} {x:Sc} (h:okO p) (c:okI x):okO (Q15 p x):=by
 obtain⟨a,t⟩:=p
 cases a with
 |none=>exact⟨fun o e=>by cases e;exact c,fun o e=>by cases e⟩
 |some o=>
  have b:=h.1 o rfl;unfold Q15;dsimp only
  split
  ·exact⟨fun q e=>by cases e;exact c,fun q e=>by cases e;exact b⟩
  ·cases t with
   |none=>exact⟨fun q e=>by cases e;exact b,fun q e=>by cases e;exact c⟩
   |some u=>
    have d:=h.2 u rfl;dsimp only
    split
    ·exact⟨fun q e=>by cases e;exact b,fun q e=>by cases e;exact c⟩
    ·exact⟨fun q e=>by cases e;exact b,fun q e=>by cases e;exact d⟩
theorem QcB:∀(l:List Sc) (p:Option Sc × Option Sc),okO p->(∀x∈l,okI x)->okO (l.foldl Q15 p)
 |[],p,h,_=>h
 |x::l,p,h,hl=>QcB l (Q15 p x) (Qbf h (hl x (by simp))) (fun y hy=>hl y (by simp[hy]))
theorem Qg2 {l:List Bk} (h:Q0b l=true):∀x∈l,0<=x.1/\x.1 < 6:=fun x c=>by
 obtain⟨i,hi,e⟩:=List.getElem_of_mem c;have a:=Q1k.1 h i hi;unfold Qce at a;simp only[Bool.and_eq_true]at a;have h2:=Q5L.1 a.1
 have b:l.getD i (0,0,false)=x:=by rw[KFq,KGq hi,<-e];rfl
 rw[b]at h2;exact⟨h2.1,h2.2.1⟩
theorem Q9b (key b:Int) {l:List Bk} (h:Q0b l=true):Q0P (Q14 key b l)=true:=by
 unfold Q14
 split
 ·have g:okO (Q5Q (scL key b l)):=QcB _ (none,none) ⟨fun o e=>(nomatch e),fun o e=>(nomatch e)⟩ (fun x f=>by
   unfold scL at f;simp only[List.mem_map,List.mem_filter]at f;obtain⟨y,⟨i,_⟩,rfl⟩:=f
   exact Qg2 h y i)
  generalize Q5Q (scL key b l)=p at *;obtain⟨a,t⟩:=p
  cases a with
  |none=>rfl
  |some o=>
   have c:=g.1 o rfl;unfold okI at c
   cases t with
   |none=>simp[Q8e,Q0P,idB,c.1,c.2]
   |some u=>
    have d:=g.2 u rfl;unfold okI at d;simp[Q8e,Q0P,idB,c.1,c.2,d.1,d.2]
 ·rfl
def Q2y (key:Int) (l:List Bk):Pt:=fun b=>QgA (Q14 key b l)
theorem QaA (key:Int) {l:List Bk} (h:Q0b l=true):Q1j (Q3z (fun b=>Q14 key b l) 8)=true:=
 Qak (Q1m _ _) (fun i hi=>by rw[Q2f _ _ _ hi];exact Q9b key i h)
theorem Qgt (key:Int) (l:List Bk):ptA (Q30 (Q3z (fun b=>Q14 key b l) 8))=ptA (Q2y key l):=
 Q9X (fun i hi=>by unfold Q30 Q2y;rw[Q2f _ _ _ hi])
theorem Q92 (key:Int) {l:List Bk} (h:Q0b l=true):Q41 (Q2y key l)=Q3z (fun b=>Q14 key b l) 8:=by
 unfold Q41 Q3z Q2y;exact List.map_congr_left (fun i hi=>Q4p (Q9b key i h))
theorem QbL {a:Func} {p:Tmp} (h:a.results=#[.cell p 188]) (tmps:Array Value) (w:World) (g:Nat) (f:Pt) (c:tmps.getD p undef=.pointer (some ⟨g,0,none⟩)) (b:w.heap[g]? =some (.cells (ptA f) 188 (0,0))):
  (results a tmps).run Tryz.prog w=.ok (ptv f) w:=results_cell_row h tmps w g _ (ptA f) (0,0) _ c b ptU rfl (QiE f)
theorem Q1z (key:Int) (o:Option Addr) (cap:Nat) (l:List Bk) (w:World) (E:RdK w.heap.size w o l) (s:l.length<=1048576) (N:Q1D key=true) (F:Q0b l=true):
  Calls Tryz.prog 118 #[.int .i64 key,.slice o l.length cap] w fun e R=>e=.returned (ptv (Q2y key l))/\Below w.heap.size w R:=by
 obtain⟨D,r⟩:∃W,(w.alloc (.cells #[.bool false,.int .i64 0,.int .i64 0,.bool false,.int .i64 0,.int .i64 0,.bool false,.int .i64 0,.int .i64 0,.bool false,.int .i64 0,.int .i64 0,.bool false,.int .i64 0,.int .i64 0,.bool false,.int .i64 0,.int .i64 0,.bool false,.int .i64 0,.int .i64 0,.bool false,.int .i64 0,.int .i64 0] 188))=W:=⟨_,rfl⟩;have c:=alb0v0v1 r
 have G:D.heap[w.heap.size]? =some (.cells (ptA ptZ) 188 (0,0)):=by rw[<-r];exact World.alloc_heap_new w _
 have C:=Q02 (Q78 key o cap l D ((E.kept c (Kaq _)).le c.size) s);have L:=Q02 (show QfS key l=8 by rw[QfS,if_pos ⟨N,F⟩]);have x:=Q02 (QaA key F);have J:=Q02 (Qgt key l);have y:=Q02 G;have f:=Q02 c;clear G c E;go_enter Tryz.func118,Tryz.ntmps118;go_wp2_with fail;refine C.out.mono ?_;rintro e P ⟨v,rfl,hv,k⟩;obtain⟨O,M,rfl,n⟩:=hv.open;rw[L.out]at n ⊢;have t:=Q3l O M (Q3z (fun b=>Q14 key b l) 8) P n (by rw[Q1m];omega) (fun i hi=>by rw[Q1m]at hi;rw[Q2f _ _ _ hi];have:=Q9Y key i l;omega);rw[x.out,if_pos rfl,Q1m]at t;unfold ptv at t
 rw[J.out]at t;have B:=Q02 t;have g:=Q02 (f.out.trans (k.mono f.out.size));have h:=Q02 ((k.block _ (KEq y.out)).trans y.out);clear hv k n t C;go_wp2_with fail;refine B.out.mono ?_;rintro e p ⟨rfl,m⟩;have a:=Q02 (g.out.trans (m.mono g.out.size));have d:=(m.block _ (KEq h.out)).trans h.out
 obtain⟨z,j⟩:∃W,(p.alloc (.cells #[.bool false,.int .i64 0,.int .i64 0,.bool false,.int .i64 0,.int .i64 0,.bool false,.int .i64 0,.int .i64 0,.bool false,.int .i64 0,.int .i64 0,.bool false,.int .i64 0,.int .i64 0,.bool false,.int .i64 0,.int .i64 0,.bool false,.int .i64 0,.int .i64 0,.bool false,.int .i64 0,.int .i64 0] 188))=W:=⟨_,rfl⟩
 have H:Hid (z.heap[p.heap.size]? =some (.cells (ptA ptZ) 188 (0,0))):=by rw[<-j];exact World.alloc_heap_new p _
 have I:Hid (z.heap[w.heap.size]? =some (.cells (ptA ptZ) 188 (0,0))):=by rw[<-j];exact(Below.heap_alloc _ _ _ (KEq d)).trans d
 have q:Hid (w.heap.size≠p.heap.size):=Nat.ne_of_lt (KEq d)
 have u:Hid (Below w.heap.size w z):=by rw[<-j];exact a.out.alloc a.out.size _
 have A:w.heap.size<=p.heap.size:=a.out.size;clear m d a B g h f y;go_wp2_with (first|(refine Q0M rfl (.tmp 5) (.tmp 12) rfl p.heap.size (Q2y key l) ptZ rfl rfl H.out ?_)|(refine Q1L rfl (.tmp 5) rfl p.heap.size rfl (Q2y key l) (setRow_heap _ _ _ _ _ _ H.out) ?_)|(refine Q0M rfl (.tmp 4) (.tmp 14) rfl w.heap.size (Q2y key l) ptZ rfl rfl ((setRow_other _ _ _ _ q.out).trans I.out) ?_));refine bodyPost_ret (QbL rfl _ _ w.heap.size (Q2y key l) rfl (setRow_heap _ _ _ _ _ _ ((setRow_other _ _ _ _ q.out).trans I.out))) rfl ⟨rfl,Q4g (Q4g u.out A _) (Kaq _) _⟩
theorem QgJ (w:World) (c:Array Value) (T:TypeId) (a b:Obj):(((w.alloc a).alloc b).alloc (.cells c T)).heap[w.heap.size+1+1]? =some (.cells c T (0,0)):=by
 have h:=World.alloc_heap_new ((w.alloc a).alloc b) (.cells c T);rw[World.size_alloc,World.size_alloc]at h;exact h
end Go.Proofs.YtpneolgdghbinaaGreat
