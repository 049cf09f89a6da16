/- Several texts in one: SPt, SPt2, SPt3, SPl, SPw, ShP2. -/
import Derived.Deep.MidRow
import Derived.Deep.WholeRow
import Derived.Test.YtpneolgdghbinaaGreatQSends26
namespace Go.Proofs.YtpneolgdghbinaaGreat
open Go.ChangeShapes Go.WideShapes Go.ChangeAt Go.RowKit Go.Joins
set_option linter.unusedVariables false
set_option linter.unusedSimpArgs false
set_option maxRecDepth 100000
set_option maxHeartbeats 40000000
abbrev Ip:=Bool × Int × Int
def Qfc:Lay Ip:=⟨3,fun a=> [.bool a.1,.int .i64 a.2.1,.int .i64 a.2.2],(false,0,0),fun _=> rfl⟩
abbrev ipv (a:Ip):Value:=.agg #[.bool a.1,.int .i64 a.2.1,.int .i64 a.2.2]
def Qfg (l:List Int):Ip:=if l.length=0 then (false,0,0) else (true,l.getD 0 0,l.getD 1 0)
def Q2A (a:Ip):List Int:=if a.1=true then [a.2.1,a.2.2] else []
def idB (x:Int):Bool:=decide (0≤x) && decide (x < 6)
def Q0O (l:List Int):Bool:=decide (l.length=0)||(decide (l.length=2) && idB (l.getD 0 0) && idB (l.getD 1 0))
theorem Q3X {l:List Int} (h:Q0O l=true):Q2A (Qfg l)=l:=by
 unfold Q0O at h
 simp only [Bool.or_eq_true,Bool.and_eq_true,decide_eq_true_eq] at h
 rcases h with h|⟨⟨h,_⟩,_⟩
 ·have e:l=[]:=List.eq_nil_of_length_eq_zero h
  subst e;rfl
 ·match l,h with
  |[a,b],_=> rfl
theorem Qgt (w:World) (x y:Int):Q9u (w.alloc (.cells #[.int .i64 x,.int .i64 y] 3)) w.heap.size (.slice (some ⟨w.heap.size,0,none⟩) 2 2) [x,y]:=
 ⟨by simp [Q2e],.inr ⟨w.heap.size,2,#[.int .i64 x,.int .i64 y],rfl,Kaq _,heap_alloc_new w _,by simp,by unfold maxLen;omega,by simp [Q2e],by simp [Q2e]⟩⟩
theorem Qbm (a:Ip) (w:World):
  Calls Tryz.prog 144 #[ipv a] w fun e w'=> ∃o c,e=.returned (.slice o (Q2A a).length c)∧Q9u w' w.heap.size (.slice o (Q2A a).length c) (Q2A a)∧Below w.heap.size w w':=by
 obtain ⟨s,x,y⟩:=a
 cases s with
 |false=>
  go_enter Tryz.func144,Tryz.ntmps144
  go_wp2
  go_ret
  exact ⟨none,0,rfl,World.ownsRow_nil _ _ _ _,by (repeat (first|with_reducible (first|exact hB|exact Below.refl _ _|refine Below.drew ?_|refine below_drewN ?_ _|refine Below.alloc ?_ ?_ _|refine Below.setCell ?_ ?_ _)|(focus (simp;first|done|omega))|omega))⟩
 |true=>
  go_enter Tryz.func144,Tryz.ntmps144
  go_wp2
  go_ret
  have h:=Qgt (w.alloc (.cells #[.bool true,.int .i64 x,.int .i64 y] 186)) x y
  rw [World.size_alloc] at h
  exact ⟨_,_,rfl,Q04 h (Nat.le_succ _),by (repeat (first|with_reducible (first|exact hB|exact Below.refl _ _|refine Below.drew ?_|refine below_drewN ?_ _|refine Below.alloc ?_ ?_ _|refine Below.setCell ?_ ?_ _)|(focus (simp;first|done|omega))|omega))⟩
theorem Q6x (x:Int) (w:World):Calls Tryz.prog 61 #[.int .i64 x] w fun e w'=> e=.returned (.bool (idB x))∧w=w':=Q3j x w
theorem Q7B (o:Option Addr) (cap:Nat) (l:List Int) (w:World) (hR:RdI w.heap.size w o l) (hlen:l.length≤1048576):
  Calls Tryz.prog 183 #[.slice o l.length cap] w fun e w'=> e=.returned (.tuple #[ipv (if Q0O l=true then Qfg l else (false,0,0)),.bool (Q0O l)])∧Below w.heap.size w w':=by
 by_cases h0:l.length=0
 ·have e:l=[]:=List.eq_nil_of_length_eq_zero h0
  subst e
  rw [show Q0O []=true from rfl,show Qfg []=(false,0,0) from rfl]
  simp only [if_true]
  go_enter Tryz.func183,Tryz.ntmps183
  go_wp2
  refine bodyPost_ret (v:=.tuple #[ipv (false,0,0),.bool true]) (by simp [results,Tryz.results183,go_sem]) rfl ⟨rfl,by (repeat (first|with_reducible (first|exact hB|exact Below.refl _ _|refine Below.drew ?_|refine below_drewN ?_ _|refine Below.alloc ?_ ?_ _|refine Below.setCell ?_ ?_ _)|(focus (simp;first|done|omega))|omega))⟩
 ·by_cases h2:l.length=2
  ·match l,h2 with
   |[x,y],_=>
    rcases hR with hR|⟨b,off,rfl,hbl,hcell⟩
    ·cases hR
    have c0:w.cell? ⟨b,off,none⟩=some (.int .i64 x):=hcell 0 (by simp) 0 (by decide)
    have c1:w.cell? ⟨b,off+1,none⟩=some (.int .i64 y):=hcell 1 (by simp) 0 (by decide)
    have hx:=fun w=> Q6x x w
    have hy:=fun w=> Q6x y w
    have hE:Q0O [x,y]=(idB x && idB y):=by simp [Q0O]
    rw [hE,show Qfg [x,y]=(true,x,y) from rfl]
    clear hcell hE
    cases h3:idB x with
    |false=>
     rw [h3] at hx;try simp only [Bool.false_and,Bool.true_and,Bool.false_eq_true,if_false]
     go_enter Tryz.func183,Tryz.ntmps183
     go_wp2_with (first|(go_at_call 61;refine (hx _).mono ?_;rintro e w1 ⟨rfl,rfl⟩))
     refine bodyPost_ret (v:=.tuple #[ipv (false,0,0),.bool false]) (by simp [results,Tryz.results183,go_sem]) rfl ⟨rfl,by (repeat (first|with_reducible (first|exact hB|exact Below.refl _ _|refine Below.drew ?_|refine below_drewN ?_ _|refine Below.alloc ?_ ?_ _|refine Below.setCell ?_ ?_ _)|(focus (simp;first|done|omega))|omega))⟩
    |true=>
     rw [h3] at hx;try simp only [Bool.false_and,Bool.true_and,Bool.false_eq_true,if_false]
     cases h4:idB y with
     |false=>
      rw [h4] at hy;simp only [Bool.false_eq_true,if_false,if_true]
      go_enter Tryz.func183,Tryz.ntmps183
      go_wp2_with (first|(go_at_call 61;first|(refine (hx _).mono ?_;rintro e w1 ⟨rfl,rfl⟩)|(refine (hy _).mono ?_;rintro e w1 ⟨rfl,rfl⟩)))
      refine bodyPost_ret (v:=.tuple #[ipv (false,0,0),.bool false]) (by simp [results,Tryz.results183,go_sem]) rfl ⟨rfl,by (repeat (first|with_reducible (first|exact hB|exact Below.refl _ _|refine Below.drew ?_|refine below_drewN ?_ _|refine Below.alloc ?_ ?_ _|refine Below.setCell ?_ ?_ _)|(focus (simp;first|done|omega))|omega))⟩
     |true=>
      rw [h4] at hy;simp only [Bool.false_eq_true,if_false,if_true]
      go_enter Tryz.func183,Tryz.ntmps183
      go_wp2_with (first|(go_at_call 61;first|(refine (hx _).mono ?_;rintro e w1 ⟨rfl,rfl⟩)|(refine (hy _).mono ?_;rintro e w1 ⟨rfl,rfl⟩)))
      go_region
      all_goals (go_wp2;refine bodyPost_ret (v:=.tuple #[ipv (true,x,y),.bool true]) (by simp [results,Tryz.results183,go_sem]) rfl ⟨rfl,by (repeat (first|with_reducible (first|exact hB|exact Below.refl _ _|refine Below.drew ?_|refine below_drewN ?_ _|refine Below.alloc ?_ ?_ _|refine Below.setCell ?_ ?_ _)|(focus (simp;first|done|omega))|omega))⟩)
  ·rw [show Q0O l=false by simp [Q0O,h0,h2]]
   simp only [Bool.false_eq_true,if_false]
   have h2':((l.length:Int)==2)=false:=beq_eq_false_iff_ne.2 (by omega)
   go_enter Tryz.func183,Tryz.ntmps183
   go_wp2
   refine bodyPost_ret (v:=.tuple #[ipv (false,0,0),.bool false]) (by simp [results,Tryz.results183,go_sem]) rfl ⟨rfl,by (repeat (first|with_reducible (first|exact hB|exact Below.refl _ _|refine Below.drew ?_|refine below_drewN ?_ _|refine Below.alloc ?_ ?_ _|refine Below.setCell ?_ ?_ _)|(focus (simp;first|done|omega))|omega))⟩
abbrev Pt:=Nat→Ip
def ptL (f:Pt):List Value:=((List.range 8).map f).flatMap Qfc.cs
def ptA (f:Pt):Array Value:=(ptL f).toArray
abbrev ptv (f:Pt):Value:=.agg (ptA f)
def ptZ:Pt:=fun _=> (false,0,0)
def upd (f:Pt) (k:Nat) (p:Ip):Pt:=fun i=> if i=k then p else f i
theorem Q3T {B g:Nat} {w0 w:World} (hb:Below B w0 w) (hBg:B≤g) (cs:Array Value):Below B w0 (w.setRow g cs):=⟨hb.os,hb.tape,hb.output,by simpa using hb.size,fun k hk=> (setRow_other w g k cs (by omega)).trans (hb.block k hk)⟩
theorem Qaa (f:Pt):(ptL f).length=24:=rfl
theorem Qbj (f:Pt):(ptA f).size=24:=rfl
theorem Qgo (f:Pt) (k:Nat) (p:Ip):((List.range 8).map f).set k p=(List.range 8).map (upd f k p):=by
 apply List.ext_getElem
 ·simp
 ·intro i h1 h2
  simp at h1 h2
  by_cases h:k=i
  ·subst h;simp [upd]
  ·have h':¬i=k:=fun e=> h e.symm
   simp [upd,h,h',List.getElem_set]
theorem Qgv (f:Pt) (k:Nat) (p:Ip):(((ptL f).set (k * 3) (.bool p.1)).set (k * 3+1) (.int .i64 p.2.1)).set (k * 3+2) (.int .i64 p.2.2)=ptL (upd f k p):=by
 unfold ptL
 rw [←Qgo]
 exact Q9j Qfc rfl rfl _ k
theorem QgA (f:Pt) (k:Nat) (p:Ip):(((ptA f).setIfInBounds (k * 3) (.bool p.1)).setIfInBounds (k * 3+1) (.int .i64 p.2.1)).setIfInBounds (k * 3+2) (.int .i64 p.2.2)=ptA (upd f k p):=by
 unfold ptA
 rw [←Qgv]
 simp
theorem QaL (f:Pt) (j:Nat) (h:j < 24):∃u,(ptA f)[j]? =some u:=⟨_,Array.getElem?_eq_getElem (by rw [Qbj];exact h)⟩
theorem Qbg (f:Pt) (k:Nat) (h:k < 8):(ptA f).extract (k * 3) (k * 3+3)=#[.bool (f k).1,.int .i64 (f k).2.1,.int .i64 (f k).2.2]:=by
 match k,h with
 |0,_=> rfl
 |1,_=> rfl
 |2,_=> rfl
 |3,_=> rfl
 |4,_=> rfl
 |5,_=> rfl
 |6,_=> rfl
 |7,_=> rfl
 |n+8,h=> exact absurd h (by omega)
theorem QgZ (f:Pt):(ptA f).all (·.oneCell')=true:=all_oneCell_toArray (fun v hv=> by
 unfold ptL at hv
 simp only [List.mem_flatMap,Qfc,List.mem_cons,List.not_mem_nil,or_false] at hv
 obtain ⟨a,_,rfl|rfl|rfl⟩:=hv <;> rfl)
theorem ptU:Tryz.prog.underlying 188=some (.array 8 186):=by kernel_rfl
theorem ptI:(Tryz.prog.info? 188).map (·.size)=some 24:=by kernel_rfl
theorem QhL (f:Pt):(Tryz.prog.info? 188).map (·.size)=some (ptA f).size:=ptI
theorem ipI:(Tryz.prog.info? 186).map (·.size)=some 3:=by kernel_rfl
theorem Qgu (w:World):(isAgg 186).run Tryz.prog w=.ok true w:=by
 simp [go_sem]
theorem QdM (w:World):(sizeOf 186).run Tryz.prog w=.ok 3 w:=by
 have h:=ipI
 cases hq:Tryz.prog.info? 186 with
 |none=> simp [hq] at h
 |some i=>
  simp [hq] at h
  simp [sizeOf,typeInfo,hq,h]
theorem Q1I {ops:Array Oper} {rest:List Oper} {o:Oper} {a:Act} {w:World} {Q:Exit→Act→World→Prop} (hgd:o.guard=none) (x:Operand) (ho:o.op=.load 188 x)
  (g:Nat) (hx:a.eval x=.pointer (some ⟨g,0,none⟩)) (f:Pt) (hg:w.heap[g]? =some (.cells (ptA f) 188 (0,0)))
  (h:wpList Tryz.prog ops Q rest (a.put o.dst (ptv f)) w):wpList Tryz.prog ops Q (o::rest) a w:=
 wpList_load_row hgd _ x ho g hx _ _ _ _ hg ptU rfl (QhL f) h
theorem Q0M {ops:Array Oper} {rest:List Oper} {o:Oper} {a:Act} {w:World} {Q:Exit→Act→World→Prop} (hgd:o.guard=none) (x y:Operand) (ho:o.op=.store 188 x y)
  (g:Nat) (f old:Pt) (hx:a.eval x=.pointer (some ⟨g,0,none⟩)) (hy:a.eval y=ptv f) (hg:w.heap[g]? =some (.cells (ptA old) 188 (0,0)))
  (h:wpList Tryz.prog ops Q rest (a.put o.dst undef) (w.setRow g (ptA f))):wpList Tryz.prog ops Q (o::rest) a w:=
 wpList_store_row hgd _ x y ho g (ptA f) hx hy _ _ hg (QhL f) rfl (QgZ f) h
theorem Q7b {ops:Array Oper} {rest:List Oper} {o:Oper} {a:Act} {w:World} {Q:Exit→Act→World→Prop} (hgd:o.guard=none) (x ix:Operand) (ho:o.op=.index 188 x ix)
  (f:Pt) (k:Nat) (hk:k < 8) (hx:a.eval x=ptv f) (hi:a.eval ix=.int .i64 (k:Int))
  (h:wpList Tryz.prog ops Q rest (a.put o.dst (ipv (f k))) w):wpList Tryz.prog ops Q (o::rest) a w:=
 wpList_plain hgd fun _ hK=> by
  have hk':(k:Int) < 8:=by omega
  unfold Oper.wp execOp
  simp only [ho,hx,hi,Instr.index,asIntOf,Sem.run_bind,Sem.run_pure,Result.andThen_ok,run_underlying ptU,part,Qgu,QdM]
  simp [hk',Qbg f k hk,part,Qgu,QdM,Sem.run_bind]
  exact hK _ _ h
def Q1h (ll:List (List Int)):Bool:=decide (ll.length=8) && (List.range 8).all (fun i=> Q0O (ll.getD i []))
def Q2P (ll:List (List Int)):Pt:=fun i=> Qfg (ll.getD i [])
def QbC (ll:List (List Int)) (k:Nat):Pt:=fun i=> if i < k then Qfg (ll.getD i []) else (false,0,0)
def Q3K (f:Pt):List (List Int):=(List.range 8).map (fun i=> Q2A (f i))
theorem Q9r {f g:Pt} (h:∀i,i < 8→f i=g i):ptA f=ptA g:=by
 unfold ptA ptL
 rw [List.map_congr_left (fun a ha=> h a (by simpa using ha))]
theorem Q6V {w:World} {B b:Nat} (h:b≠B) (j:Nat) (u:Value):(w.setCell ⟨B,j,none⟩ u).heap[b]? =w.heap[b]? :=by
 by_cases hb:b < w.heap.size
 ·exact (Q0D w B j u).block b hb (by simp [h])
 ·have h1:w.heap[b]? =none:=Array.getElem?_eq_none (by omega)
  have h2:(w.setCell ⟨B,j,none⟩ u).heap[b]? =none:=Array.getElem?_eq_none (by simp;omega)
  rw [h1,h2]
theorem QbT (ll:List (List Int)):QbC ll 0=ptZ:=by funext i;simp [QbC,ptZ]
theorem Qed (ll:List (List Int)):ptA (QbC ll 8)=ptA (Q2P ll):=Q9r (fun i hi=> by simp [QbC,Q2P,hi])
theorem QdY (ll:List (List Int)) (k:Nat):upd (QbC ll k) k (Qfg (ll.getD k []))=QbC ll (k+1):=by
 funext i
 unfold upd QbC
 by_cases h:i=k
 ·subst h;simp
 ·by_cases h2:i < k
  ·simp [h,h2,show i < k+1 by omega]
  ·simp [h,h2,show ¬i < k+1 by omega]
theorem Qf1 {ll:List (List Int)} {k:Nat} (hk:k < 8) (h:Q0O (ll.getD k [])=false):Q1h ll=false:=by
 unfold Q1h
 have:(List.range 8).all (fun i=> Q0O (ll.getD i []))=false:=by
  rw [List.all_eq_false]
  exact ⟨k,by simpa using hk,by rw [h];simp⟩
 rw [this,Bool.and_false]
theorem Q9H {ll:List (List Int)} (h8:ll.length=8) (h:∀i,i < 8→Q0O (ll.getD i [])=true):Q1h ll=true:=by
 unfold Q1h
 rw [decide_eq_true h8,Bool.true_and,List.all_eq_true]
 exact fun i hi=> h i (by simpa using hi)
theorem Qh6 {ll:List (List Int)} {k:Nat} (h:∀i,i < k→Q0O (ll.getD i [])=true) (hk:Q0O (ll.getD k [])=true):∀i,i < k+1→Q0O (ll.getD i [])=true:=fun i hi=> by
 rcases Nat.lt_succ_iff_lt_or_eq.1 hi with h'|h'
 ·exact h i h'
 ·subst h';exact hk
theorem Q5B {fn:Func} {p q:Tmp} (h:fn.results=#[.cell p 188,.tmp q]) (tmps:Array Value) (w:World) (g:Nat) (f:Pt) (hp:tmps.getD p undef=.pointer (some ⟨g,0,none⟩)) (hg:w.heap[g]? =some (.cells (ptA f) 188 (0,0))):
  (results fn tmps).run Tryz.prog w=.ok (.tuple #[ptv f,tmps.getD q undef]) w:=by
 have hp':tmps[p]?.getD undef=.pointer (some ⟨g,0,none⟩):=by simpa using hp
 simp [results,h,hp',asAddr,run_loadVar_row w g 188 188 (ptA f) (0,0) _ hg ptU rfl (QhL f)]
theorem Q3g (o:Option Addr) (cap:Nat) (ll:List (List Int)) (w:World) (hR:RdLL w.heap.size w o ll) (hl:ll.length≤1048576) (hx:∀i,i < ll.length→(ll.getD i []).length≤1048576):
  Calls Tryz.prog 162 #[.slice o ll.length cap] w fun e w'=> e=.returned (.tuple #[ptv (if Q1h ll=true then Q2P ll else ptZ),.bool (Q1h ll)])∧Below w.heap.size w w':=by
 obtain ⟨W0,hW0⟩:∃W,((w.alloc (.cells #[.bool false,.int .i64 0,.int .i64 0,.bool false,.int .i64 0,.int .i64 0,.bool false,.int .i64 0,.int .i64 0,.bool false,.int .i64 0,.int .i64 0,.bool false,.int .i64 0,.int .i64 0,.bool false,.int .i64 0,.int .i64 0,.bool false,.int .i64 0,.int .i64 0,.bool false,.int .i64 0,.int .i64 0] 188)).alloc (.cells #[.bool false,.int .i64 0,.int .i64 0,.bool false,.int .i64 0,.int .i64 0,.bool false,.int .i64 0,.int .i64 0,.bool false,.int .i64 0,.int .i64 0,.bool false,.int .i64 0,.int .i64 0,.bool false,.int .i64 0,.int .i64 0,.bool false,.int .i64 0,.int .i64 0,.bool false,.int .i64 0,.int .i64 0] 188))=W:=⟨_,rfl⟩
 have hb0:Below w.heap.size w W0:=by rw [←hW0];exact ((Below.refl _ _).alloc (Kaq _) _).alloc (by simp) _
 have hz2:W0.heap[w.heap.size]? =some (.cells (ptA ptZ) 188 (0,0)):=by rw [←hW0];exact Q3E w _ _ _
 have hz4:W0.heap[w.heap.size+1]? =some (.cells (ptA ptZ) 188 (0,0)):=by rw [←hW0];exact Q1N w _ _ _
 have hs0:W0.heap.size=w.heap.size+1+1:=by rw [←hW0];simp
 have HB0:=Q02 hb0;have HZ2:=Q02 hz2;have HZ4:=Q02 hz4;clear hb0 hz2 hz4
 by_cases h8:ll.length=8
 ·rw [h8]
  have H8:=Q02 h8;clear h8 hl;have HR:=Q02 hR;have HX:=Q02 hx;clear hR hx;obtain ⟨A,hA⟩:∃A,(.tuple #[ptv (if Q1h ll=true then Q2P ll else ptZ),.bool (Q1h ll)]:Value)=A:=⟨_,rfl⟩
  rw [hA]
  have HA:=Q02 hA;clear hA
  go_enter Tryz.func162,Tryz.ntmps162
  go_wp2
  go_loopw [15] (fun iv wr=> ∃k:Nat,k≤8∧iv=.int .i64 (k:Int)∧Hid (wr.heap[w.heap.size]? =some (.cells (ptA ptZ) 188 (0,0)))∧Hid (wr.heap[w.heap.size+1]? =some (.cells (ptA (QbC ll k)) 188 (0,0)))∧Hid (∀i,i < k→Q0O (ll.getD i [])=true)∧Hid (Below w.heap.size w wr))
   (fun iv _=> 8 - (intOf iv).toNat)
  case atStart=> exact ⟨0,Kcq _,rfl,HZ2.out,by rw [QbT];exact HZ4.out,fun i hi=> absurd hi (Nat.not_lt_zero _),HB0.out⟩
  case round=>
   obtain ⟨k,hk,rfl,H2,H4,HOK,HBr⟩:=hrel;clear HZ2 HZ4 HB0 hs0 hW0
   have hs4:=(Array.getElem?_eq_some_iff.1 H4.out).1
   by_cases hlt:k < 8
   ·have hlt':(k:Int) < 8:=by omega
    obtain ⟨b,off,o',c',rfl,hb,hc,hr⟩:=((HR.out.kept HBr.out (Kaq _)).le HBr.out.size).at (Kaq _) k (by rw [H8.out];exact hlt)
    have hp:=Q7B o' c' (ll.getD k []) wr hr (HX.out k (by rw [H8.out];exact hlt))
    clear hr
    cases hq:Q0O (ll.getD k []) with
    |false=>
     rw [hq] at hp
     simp only [Bool.false_eq_true,if_false] at hp
     have hA':A=.tuple #[ptv ptZ,.bool false]:=by rw [←HA.out,Qf1 hlt hq];rfl
     clear hq HA;subst hA';generalize (ll.getD k []).length=q at *
     go_wp2_with fail
     refine hp.mono ?_
     rintro e v1 ⟨rfl,hb1⟩
     have h2:=Q02 ((hb1.block _ (show w.heap.size < wr.heap.size by omega)).trans H2.out)
     have HB1:=Q02 (HBr.out.trans (hb1.mono HBr.out.size));have hs1:=hb1.size;clear hb1 hp
     have H2':Hid ((v1.alloc (.cells #[.bool false,.int .i64 0,.int .i64 0] 186)).heap[w.heap.size]? =some (.cells (ptA ptZ) 188 (0,0))):=(Below.heap_alloc _ _ _ (by omega)).trans h2.out
     have HB2:Hid (Below w.heap.size w (v1.alloc (.cells #[.bool false,.int .i64 0,.int .i64 0] 186))):=HB1.out.alloc HB1.out.size _;clear HB1 h2
     go_wp2_with (first|(refine Q0M rfl (.tmp 2) (.tmp 27) rfl w.heap.size ptZ ptZ rfl rfl H2'.out ?_))
     refine bodyPost_ret (Q5B rfl _ _ w.heap.size ptZ rfl (setRow_heap _ _ _ _ _ _ H2'.out)) rfl ⟨rfl,Q3T HB2.out (Kaq _) _⟩
    |true=>
     rw [hq] at hp
     simp only [if_true] at hp
     have HQ:=Q02 hq;have HS:=Q02 (QdY ll k);obtain ⟨p,hpe⟩:∃p,Qfg (ll.getD k [])=p:=⟨_,rfl⟩
     rw [hpe] at hp HS
     clear hpe hq;obtain ⟨s,x,y⟩:=p;generalize (ll.getD k []).length=q at *
     go_wp2_with fail
     refine hp.mono ?_
     rintro e v1 ⟨rfl,hb1⟩
     have h2:=Q02 ((hb1.block _ (show w.heap.size < wr.heap.size by omega)).trans H2.out)
     have h4:=Q02 ((hb1.block _ hs4).trans H4.out);have HB1:=Q02 (HBr.out.trans (hb1.mono HBr.out.size));have hs1:=hb1.size;clear hb1 hp;obtain ⟨W1,hW1⟩:∃W,v1.alloc (.cells #[.bool s,.int .i64 x,.int .i64 y] 186)=W:=⟨_,rfl⟩
     have h2':W1.heap[w.heap.size]? =some (.cells (ptA ptZ) 188 (0,0)):=by rw [←hW1];exact (Below.heap_alloc _ _ _ (by omega)).trans h2.out
     have h4':W1.heap[w.heap.size+1]? =some (.cells (ptA (QbC ll k)) 188 (0,0)):=by rw [←hW1];exact (Below.heap_alloc _ _ _ (by omega)).trans h4.out
     obtain ⟨u0,u1,u2⟩:=alc3v0v1 hW1
     have HB2:Hid (Below w.heap.size w W1):=by rw [←hW1];exact HB1.out.alloc HB1.out.size _
     obtain ⟨q0,e0⟩:=QaL (QbC ll k) (k * 3) (by omega)
     obtain ⟨q1,e1⟩:=QaL (QbC ll k) (k * 3+1) (by omega)
     obtain ⟨q2,e2⟩:=QaL (QbC ll k) (k * 3+2) (by omega)
     have a0:W1.cell? ⟨w.heap.size+1,k * 3,none⟩=some q0:=Q00 h4' _ _ e0;have g0:=Q01 h4' (k * 3);have h5:=Q06 h4' (k * 3) (.bool s);obtain ⟨W2,hW2⟩:∃W,W1.setCell ⟨w.heap.size+1,k * 3,none⟩ (.bool s)=W:=⟨_,rfl⟩
     rw [hW2] at h5
     have a1:W2.cell? ⟨w.heap.size+1,k * 3+1,none⟩=some q1:=Q00 h5 _ _ (by rw [Array.getElem?_setIfInBounds_ne (by omega)];exact e1)
     have g1:=Q01 h5 (k * 3+1);have h6:=Q06 h5 (k * 3+1) (.int .i64 x);obtain ⟨W3,hW3⟩:∃W,W2.setCell ⟨w.heap.size+1,k * 3+1,none⟩ (.int .i64 x)=W:=⟨_,rfl⟩
     rw [hW3] at h6
     have a2:W3.cell? ⟨w.heap.size+1,k * 3+2,none⟩=some q2:=Q00 h6 _ _ (by rw [Array.getElem?_setIfInBounds_ne (by omega),Array.getElem?_setIfInBounds_ne (by omega)];exact e2)
     have g2:=Q01 h6 (k * 3+2);have h7:=Q06 h6 (k * 3+2) (.int .i64 y);obtain ⟨W4,hW4⟩:∃W,W3.setCell ⟨w.heap.size+1,k * 3+2,none⟩ (.int .i64 y)=W:=⟨_,rfl⟩
     rw [hW4] at h7
     have H4n:Hid (W4.heap[w.heap.size+1]? =some (.cells (ptA (QbC ll (k+1))) 188 (0,0))):=by rw [←HS.out,←QgA];exact h7
     have H2n:Hid (W4.heap[w.heap.size]? =some (.cells (ptA ptZ) 188 (0,0))):=by
      rw [←hW4,←hW3,←hW2]
      exact (Q6V (by omega) _ _).trans ((Q6V (by omega) _ _).trans ((Q6V (by omega) _ _).trans h2'))
     have HBn:Hid (Below w.heap.size w W4):=by
      rw [←hW4,←hW3,←hW2]
      exact ((HB2.out.setCell (p:=⟨w.heap.size+1,k * 3,none⟩) (Nat.le_succ _) _).setCell (p:=⟨w.heap.size+1,k * 3+1,none⟩) (Nat.le_succ _) _).setCell (p:=⟨w.heap.size+1,k * 3+2,none⟩) (Nat.le_succ _) _
     clear h5 h6 h7 h4' h2' e0 e1 e2 h2 h4 HB1 HB2 HS
     go_wp2
     go_roundw
     case rel=> exact ⟨k+1,by omega,by go_num,H2n.out,H4n.out,(Qh6 HOK.out HQ.out),HBn.out⟩
     case measure=> simp [intOf];omega
   ·have e:k=8:=by omega
    subst e
    have hA':A=.tuple #[ptv (QbC ll 8),.bool true]:=by rw [←HA.out,Q9H H8.out HOK.out,if_pos rfl];unfold ptv;rw [Qed]
    clear HA;subst hA'
    go_wp2_with (first|(refine Q1I rfl (.tmp 4) rfl (w.heap.size+1) rfl _ H4.out ?_)|(refine Q0M rfl (.tmp 2) (.tmp 32) rfl w.heap.size _ ptZ rfl rfl H2.out ?_))
    refine bodyPost_ret (Q5B rfl _ _ w.heap.size _ rfl (setRow_heap _ _ _ _ _ _ H2.out)) rfl ⟨rfl,Q3T HBr.out (Kaq _) _⟩
 ·rw [show Q1h ll=false by unfold Q1h;rw [decide_eq_false h8,Bool.false_and]]
  simp only [Bool.false_eq_true,if_false]
  have h8':((ll.length:Int)==8)=false:=beq_eq_false_iff_ne.2 (by omega)
  have h8n:¬((ll.length:Int)=8):=by omega
  go_enter Tryz.func162,Tryz.ntmps162
  go_wp2_with (first|(refine Q1I rfl (.tmp 4) rfl (w.heap.size+1) rfl _ HZ4.out ?_)|(refine Q0M rfl (.tmp 2) (.tmp 12) rfl w.heap.size _ ptZ rfl rfl HZ2.out ?_))
  refine bodyPost_ret (Q5B rfl _ _ w.heap.size _ rfl (setRow_heap _ _ _ _ _ _ HZ2.out)) rfl ⟨rfl,Q3T HB0.out (Kaq _) _⟩
theorem Q3G (f:Pt):(Q3K f).length=8:=by simp [Q3K]
theorem QdK (f:Pt) (k:Nat) (h:k < 8):(Q3K f).take (k+1)=(Q3K f).take k++[Q2A (f k)]:=by
 have hk:k < (Q3K f).length:=by rw [Q3G];exact h
 rw [List.take_succ_eq_append_getElem hk]
 simp [Q3K]
theorem Qfo (f:Pt):(Q3K f).take 8=Q3K f:=List.take_of_length_le (by rw [Q3G];exact Kaq _)
theorem Q0t (w:World) (B j:Nat) (u:Value):Stp B (B+1) w (w.setCell ⟨B,j,none⟩ u):=Stp.grown (Q0D w B j u) (fun b e=> by injection e with e;omega)
theorem Q8V (f:Pt) (w:World):
  Calls Tryz.prog 120 #[ptv f] w fun e w'=> ∃v,e=.returned v∧InT w.heap.size w'.heap.size w' v (Q3K f)∧Below w.heap.size w w':=by
 obtain ⟨i0,hi,hz0,hz1,hz2⟩:=info_parts Q6m;obtain ⟨W0,hW0⟩:∃W,(w.alloc (.cells (ptA f) 188))=W:=⟨_,rfl⟩
 have hb0:Below w.heap.size w W0:=by rw [←hW0];exact (Below.refl _ _).alloc (Kaq _) _
 have z0:W0.heap[w.heap.size]? =some (.cells (ptA f) 188 (0,0)):=by rw [←hW0];exact World.alloc_heap_new w _
 have hs0:W0.heap.size=w.heap.size+1:=by rw [←hW0];simp
 have HZ:=Q02 z0;have HB0:=Q02 hb0;have HS0:=Q02 hs0;clear z0 hb0 hs0
 go_enter Tryz.func120,Tryz.ntmps120
 go_wp2_with (first|(at_make;refine wpList_make_full _ rfl _ _ 51 rfl W0.heap.size 47 i0 (.slice none 0 0) 1 Tryz.underlying51 hi hz0 hz1 _ _ _ _ 8 rfl rfl rfl rfl ?b2 ?b3 ?b4 ?_))
 case b2=> rw [hz2];omega
 case b3=> unfold maxLen;omega
 case b4=> simp
 intro w3 hown hgrow
 have hb3:Below W0.heap.size W0 w3:=(Below.refl _ _).grown hgrow (Kaq _) (fun k h=> by cases h)
 have ho3:w3.ownsRow (w.heap.size+1) 47 1 (.slice (some ⟨W0.heap.size,0,none⟩) 8 8) 8 ((([]:List Hd)++List.replicate (8 - 0) Q0C.d).flatMap Q0C.cs):=by
  rw [List.nil_append,Nat.sub_zero,←Q3q Q0C (.slice none 0 0) rfl,show Q0C.k=1 from rfl,Nat.mul_one];exact Q04 hown (by have:=HS0.out;omega)
 have HZ3:=Q02 ((hb3.block w.heap.size (by have:=HS0.out;omega)).trans HZ.out)
 have HB3:=Q02 (HB0.out.trans (hb3.mono HB0.out.size));have hs3:W0.heap.size+1≤w3.heap.size:=(hown.lt W0.heap.size rfl).2;have HO3:=Q02 ho3;clear hown hgrow hb3 ho3 HZ HB0
 go_wp2_with (first|(refine Q1I rfl (.tmp 1) rfl w.heap.size rfl f HZ3.out ?_))
 go_loopw [8] (fun iv wr=> ∃(k:Nat) (hs:List Hd) (L H:Nat→Nat),k≤8∧iv=.int .i64 (k:Int)∧Hid (wr.ownsRow (w.heap.size+1) 47 1 (.slice (some ⟨W0.heap.size,0,none⟩) 8 8) 8 ((hs++List.replicate (8 - k) Q0C.d).flatMap Q0C.cs))∧Hid (Rw InI [] ((Q3K f).take k) (W0.heap.size+1) wr.heap.size wr hs L H)∧Hid (Below w.heap.size w wr)∧W0.heap.size+1≤wr.heap.size)
  (fun iv _=> 8 - (intOf iv).toNat)
 case atStart=> exact ⟨0,[],fun _=> 0,fun _=> 0,Kcq _,rfl,HO3.out,by rw [List.take_zero];exact Rw.nil _ _ _ _ _ _ _,HB3.out,hs3⟩
 case round=>
  obtain ⟨k,hs,L,H,hk8,rfl,HO,HR,HBr,hsr⟩:=hrel;clear HO3 HZ3 HB3 hs3
  have hhl:hs.length=k:=by have h1:=HR.out.len;rw [List.length_take,Q3G] at h1;omega
  by_cases hlt:k < 8
  ·have z1:(k:Int) < 8:=by omega
   have HS:=Q02 (QdK f k hlt);obtain ⟨p,hp⟩:∃p,f k=p:=⟨_,rfl⟩;have HP:=Q02 hp
   rw [hp] at HS
   clear hp;obtain ⟨s,x,y⟩:=p;obtain ⟨W1,hW1⟩:∃W,wr.alloc (.cells #[.bool s,.int .i64 x,.int .i64 y] 186)=W:=⟨_,rfl⟩
   have hb1:Below wr.heap.size wr W1:=by rw [←hW1];exact (Below.refl _ _).alloc (Kaq _) _
   obtain ⟨u0,u1,u2⟩:=alc3v0v1 hW1;have HL:=Q02 (Qbm (s,x,y) W1);have HO1:=Q02 (Q03 HO.out hb1);have HR1:=Q02 (HR.out.kept InI.stp hb1);have HB1:=Q02 (HBr.out.trans (hb1.mono HBr.out.size));have hs1:=hb1.size;clear hb1 HO HR HBr
   go_wp2_with (first|(refine Q7b rfl (.tmp 7) (.tmp 8) rfl f k hlt rfl rfl ?_;rw [HP.out])|fail)
   refine HL.out.mono ?_
   rintro e v1 ⟨o4,c4,rfl,ow4,hb4⟩
   have HO4:=Q02 (Q03 HO1.out hb4)
   have hln:((hs++List.replicate (8 - k) Q0C.d).flatMap Q0C.cs).length=8:=by rw [Q0s,List.length_append,List.length_replicate,hhl,show Q0C.k=1 from rfl];omega
   have hcl:=HO4.out.cellAt k (by omega)
   have hfr:=HO4.out.frozenAt k
   obtain ⟨u,hu⟩:∃u,v1.cell? ⟨W0.heap.size,k,none⟩=some u:=⟨_,hcl.trans (List.getElem?_eq_getElem (by omega))⟩
   have HO5:=Q02 (Q7P (o:=o4) (m:=(Q2A (s,x,y)).length) (c:=c4) hlt hhl HO4.out)
   have HR4:=(HR1.out.kept InI.stp hb4).snoc (l2:=W1.heap.size) (h2:=v1.heap.size) hs1 (by omega) hb4.size (x:=Q2A (s,x,y)) (o:=o4) (m:=(Q2A (s,x,y)).length) (c:=c4) (InRow.of ow4)
   rw [←HS.out] at HR4
   have HR5:=HR4.step InI.stp (Q0t v1 W0.heap.size k (.slice o4 (Q2A (s,x,y)).length c4)) (fun i hi=> .inl (HR4.bd i hi).1)
   have HR6:Hid (Rw InI [] ((Q3K f).take (k+1)) (W0.heap.size+1) (v1.setCell ⟨W0.heap.size,k,none⟩ (.slice o4 (Q2A (s,x,y)).length c4)).heap.size (v1.setCell ⟨W0.heap.size,k,none⟩ (.slice o4 (Q2A (s,x,y)).length c4)) _ _ _):=HR5.mono (Kaq _) (by simp)
   have HB5:=Q02 ((HB1.out.trans (hb4.mono HB1.out.size)).setCell (p:=⟨W0.heap.size,k,none⟩) (show w.heap.size≤W0.heap.size by have:=HS0.out;omega) (.slice o4 (Q2A (s,x,y)).length c4))
   have hs5:W0.heap.size+1≤v1.heap.size:=by have:=hb4.size;omega
   clear ow4 hb4 hcl HR4 HR5 hln HL;generalize (Q2A (s,x,y)).length=q at *
   go_wp2
   go_roundw
   case rel=> exact ⟨k+1,_,_,_,by omega,by go_num,HO5.out,HR6.out,HB5.out,by simpa using hs5⟩
   case measure=> simp [intOf];omega
  ·have e:k=8:=by omega
   subst e
   go_wp2
   go_ret
   have h1:=HO.out
   rw [Nat.sub_self,List.replicate_zero,List.append_nil] at h1
   have h2:=HR.out
   rw [Qfo] at h2
   have hs0:=HS0.out
   have h3:∀b,(Value.slice (some ⟨W0.heap.size,0,none⟩) 8 8).ownBlock=some b→b=W0.heap.size:=fun b e=> (Option.some.inj e).symm
   have h4:InT w.heap.size wr.heap.size wr (.slice (some ⟨W0.heap.size,0,none⟩) 8 8) (Q3K f):=by
    refine ⟨hs,L,H,⟨Q04 (base:=w.heap.size+1) (by rw [hhl];exact h1) (Nat.le_succ _),fun b e=> ?_⟩,h2.mono (by omega) (Kaq _),fun i hi b e=> ?_⟩
    ·have:=h3 b e;omega
    ·have:=h3 b e
     have:=h2.bd i hi
     omega
   exact ⟨_,rfl,h4,HBr.out⟩
def okI (x:Sc):Prop:=0≤x.1∧x.1 < 6
def okO (p:Option Sc × Option Sc):Prop:=(∀o,p.1=some o→okI o)∧∀o,p.2=some o→okI o
theorem Qau {p:Option Sc × Option Sc} {x:Sc} (h:okO p) (hx:okI x):okO (Q10 p x):=by
 obtain ⟨a,t⟩:=p
 cases a with
 |none=> exact ⟨fun o e=> by cases e;exact hx,fun o e=> by cases e⟩
 |some o=>
  have ho:=h.1 o rfl
  unfold Q10
  dsimp only
  split
  ·exact ⟨fun q e=> by cases e;exact hx,fun q e=> by cases e;exact ho⟩
  ·cases t with
   |none=> exact ⟨fun q e=> by cases e;exact ho,fun q e=> by cases e;exact hx⟩
   |some u=>
    have hu:=h.2 u rfl
    dsimp only
    split
    ·exact ⟨fun q e=> by cases e;exact ho,fun q e=> by cases e;exact hx⟩
    ·exact ⟨fun q e=> by cases e;exact ho,fun q e=> by cases e;exact hu⟩
theorem QbE:∀(l:List Sc) (p:Option Sc × Option Sc),okO p→(∀x∈l,okI x)→okO (l.foldl Q10 p)
 |[],p,h,_=> h
 |x::l,p,h,hl=> QbE l (Q10 p x) (Qau h (hl x (by simp))) (fun y hy=> hl y (by simp [hy]))
theorem Qfw {l:List Bk} (h:Q0a l=true):∀x∈l,0≤x.1∧x.1 < 6:=fun x hx=> by
 obtain ⟨i,hi,e⟩:=List.getElem_of_mem hx;have h1:=Q1k.1 h i hi
 unfold QbA at h1
 simp only [Bool.and_eq_true] at h1
 have h2:=Q5l.1 h1.1
 have e2:l.getD i (0,0,false)=x:=by rw [List.getD_eq_getElem?_getD,List.getElem?_eq_getElem hi,←e];rfl
 rw [e2] at h2
 exact ⟨h2.1,h2.2.1⟩
theorem Q8s (key b:Int) {l:List Bk} (h:Q0a l=true):Q0O (Q0Z key b l)=true:=by
 unfold Q0Z
 split
 ·have h1:okO (Q5p (scL key b l)):=QbE _ (none,none) ⟨fun o e=> (nomatch e),fun o e=> (nomatch e)⟩ (fun x hx=> by
   unfold scL at hx
   simp only [List.mem_map,List.mem_filter] at hx
   obtain ⟨y,⟨hy,_⟩,rfl⟩:=hx
   exact Qfw h y hy)
  generalize Q5p (scL key b l)=p at *;obtain ⟨a,t⟩:=p
  cases a with
  |none=> rfl
  |some o=>
   have ho:=h1.1 o rfl
   unfold okI at ho
   cases t with
   |none=> simp [Q7r,Q0O,idB,ho.1,ho.2]
   |some u=>
    have hu:=h1.2 u rfl
    unfold okI at hu
    simp [Q7r,Q0O,idB,ho.1,ho.2,hu.1,hu.2]
 ·rfl
def Q2r (key:Int) (l:List Bk):Pt:=fun b=> Qfg (Q0Z key b l)
theorem Q9O (key:Int) {l:List Bk} (h:Q0a l=true):Q1h (Q3a (fun b=> Q0Z key b l) 8)=true:=
 Q9H (Q1m _ _) (fun i hi=> by rw [Q27 _ _ _ hi];exact Q8s key i h)
theorem Qff (key:Int) (l:List Bk):ptA (Q2P (Q3a (fun b=> Q0Z key b l) 8))=ptA (Q2r key l):=
 Q9r (fun i hi=> by unfold Q2P Q2r;rw [Q27 _ _ _ hi])
theorem Q8o (key:Int) {l:List Bk} (h:Q0a l=true):Q3K (Q2r key l)=Q3a (fun b=> Q0Z key b l) 8:=by
 unfold Q3K Q3a Q2r
 exact List.map_congr_left (fun i hi=> Q3X (Q8s key i h))
theorem Qa4 {fn:Func} {p:Tmp} (h:fn.results=#[.cell p 188]) (tmps:Array Value) (w:World) (g:Nat) (f:Pt) (hp:tmps.getD p undef=.pointer (some ⟨g,0,none⟩)) (hg:w.heap[g]? =some (.cells (ptA f) 188 (0,0))):
  (results fn tmps).run Tryz.prog w=.ok (ptv f) w:=results_cell_row h tmps w g _ (ptA f) (0,0) _ hp hg ptU rfl (QhL f)
theorem Q1u (key:Int) (o:Option Addr) (cap:Nat) (l:List Bk) (w:World) (hR:RdK w.heap.size w o l) (hlen:l.length≤1048576) (hk:Q1C key=true) (hl:Q0a l=true):
  Calls Tryz.prog 118 #[.int .i64 key,.slice o l.length cap] w fun e w'=> e=.returned (ptv (Q2r key l))∧Below w.heap.size w w':=by
 obtain ⟨W0,hW0⟩:∃W,(w.alloc (.cells #[.bool false,.int .i64 0,.int .i64 0,.bool false,.int .i64 0,.int .i64 0,.bool false,.int .i64 0,.int .i64 0,.bool false,.int .i64 0,.int .i64 0,.bool false,.int .i64 0,.int .i64 0,.bool false,.int .i64 0,.int .i64 0,.bool false,.int .i64 0,.int .i64 0,.bool false,.int .i64 0,.int .i64 0] 188))=W:=⟨_,rfl⟩
 have hb0:Below w.heap.size w W0:=by rw [←hW0];exact (Below.refl _ _).alloc (Kaq _) _
 have z0:W0.heap[w.heap.size]? =some (.cells (ptA ptZ) 188 (0,0)):=by rw [←hW0];exact World.alloc_heap_new w _
 have HT:=Q02 (Q6X key o cap l W0 ((hR.kept hb0 (Kaq _)).le hb0.size) hlen)
 have HN:=Q02 (show QeK key l=8 by rw [QeK,if_pos ⟨hk,hl⟩])
 have HOK:=Q02 (Q9O key hl);have HF:=Q02 (Qff key l);have HZ:=Q02 z0;have HB0:=Q02 hb0;clear z0 hb0 hR
 go_enter Tryz.func118,Tryz.ntmps118
 go_wp2_with fail
 refine HT.out.mono ?_
 rintro e v1 ⟨v,rfl,hv,hb1⟩
 obtain ⟨o1,c1,rfl,hr1⟩:=hv.open
 rw [HN.out] at hr1 ⊢
 have hp:=Q3g o1 c1 (Q3a (fun b=> Q0Z key b l) 8) v1 hr1 (by rw [Q1m];omega) (fun i hi=> by rw [Q1m] at hi;rw [Q27 _ _ _ hi];have:=Q9x key i l;omega)
 rw [HOK.out,if_pos rfl,Q1m] at hp
 unfold ptv at hp
 rw [HF.out] at hp
 have HP:=Q02 hp;have HB1:=Q02 (HB0.out.trans (hb1.mono HB0.out.size))
 have HZ1:=Q02 ((hb1.block _ (Array.getElem?_eq_some_iff.1 HZ.out).1).trans HZ.out)
 clear hv hb1 hr1 hp HT
 go_wp2_with fail
 refine HP.out.mono ?_
 rintro e v2 ⟨rfl,hb2⟩
 have HB2:=Q02 (HB1.out.trans (hb2.mono HB1.out.size))
 have hz2:=(hb2.block _ (Array.getElem?_eq_some_iff.1 HZ1.out).1).trans HZ1.out
 obtain ⟨W3,hW3⟩:∃W,(v2.alloc (.cells #[.bool false,.int .i64 0,.int .i64 0,.bool false,.int .i64 0,.int .i64 0,.bool false,.int .i64 0,.int .i64 0,.bool false,.int .i64 0,.int .i64 0,.bool false,.int .i64 0,.int .i64 0,.bool false,.int .i64 0,.int .i64 0,.bool false,.int .i64 0,.int .i64 0,.bool false,.int .i64 0,.int .i64 0] 188))=W:=⟨_,rfl⟩
 have z3:Hid (W3.heap[v2.heap.size]? =some (.cells (ptA ptZ) 188 (0,0))):=by rw [←hW3];exact World.alloc_heap_new v2 _
 have z4:Hid (W3.heap[w.heap.size]? =some (.cells (ptA ptZ) 188 (0,0))):=by rw [←hW3];exact (Below.heap_alloc _ _ _ (Array.getElem?_eq_some_iff.1 hz2).1).trans hz2
 have HNE:Hid (w.heap.size≠v2.heap.size):=Nat.ne_of_lt (Array.getElem?_eq_some_iff.1 hz2).1
 have HB3:Hid (Below w.heap.size w W3):=by rw [←hW3];exact HB2.out.alloc HB2.out.size _
 have hle:w.heap.size≤v2.heap.size:=HB2.out.size;clear hb2 hz2 HB2 HP HB1 HZ1 HB0 HZ
 go_wp2_with (first|(refine Q0M rfl (.tmp 5) (.tmp 12) rfl v2.heap.size (Q2r key l) ptZ rfl rfl z3.out ?_)|(refine Q1I rfl (.tmp 5) rfl v2.heap.size rfl (Q2r key l) (setRow_heap _ _ _ _ _ _ z3.out) ?_)|(refine Q0M rfl (.tmp 4) (.tmp 14) rfl w.heap.size (Q2r key l) ptZ rfl rfl ((setRow_other _ _ _ _ HNE.out).trans z4.out) ?_))
 refine bodyPost_ret (Qa4 rfl _ _ w.heap.size (Q2r key l) rfl (setRow_heap _ _ _ _ _ _ ((setRow_other _ _ _ _ HNE.out).trans z4.out))) rfl ⟨rfl,Q3T (Q3T HB3.out hle _) (Kaq _) _⟩
theorem Qfx (w:World) (c:Array Value) (T:TypeId) (o1 o2:Obj):(((w.alloc o1).alloc o2).alloc (.cells c T)).heap[w.heap.size+1+1]? =some (.cells c T (0,0)):=by
 have h:=World.alloc_heap_new ((w.alloc o1).alloc o2) (.cells c T)
 rw [World.size_alloc,World.size_alloc] at h
 exact h
end Go.Proofs.YtpneolgdghbinaaGreat
