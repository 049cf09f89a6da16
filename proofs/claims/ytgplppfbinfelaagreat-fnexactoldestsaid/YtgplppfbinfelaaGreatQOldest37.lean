/- Several texts in one: SPt, SPt2, SPt3, SPl, ShP2, OpenP, ShBal2, SPw, OpenB. -/
import Derived.Deep.MidRow
import Derived.Deep.WholeRow
import Derived.Test.YtgplppfbinfelaaGreatQOldest36
namespace Go.Proofs.YtgplppfbinfelaaGreat
open Go.ChangeShapes Go.WideShapes Go.ChangeAt Go.RowKit Go.Joins
set_option linter.unusedVariables false
set_option linter.unusedSimpArgs false
set_option maxRecDepth 100000
set_option maxHeartbeats 40000000
abbrev Ip:=Bool × Int × Int
def layP:Lay Ip:=⟨3,fun a=> [.bool a.1,.int .i64 a.2.1,.int .i64 a.2.2],(false,0,0),fun _=> rfl⟩
abbrev ipv (a:Ip):Value:=.agg #[.bool a.1,.int .i64 a.2.1,.int .i64 a.2.2]
def ipOf (l:List Int):Ip:=if l.length=0 then (false,0,0) else (true,l.getD 0 0,l.getD 1 0)
def ipList (a:Ip):List Int:=if a.1=true then [a.2.1,a.2.2] else []
def idB (x:Int):Bool:=decide (0≤x) && decide (x < 6)
def pairOkB (l:List Int):Bool:=decide (l.length=0)||(decide (l.length=2) && idB (l.getD 0 0) && idB (l.getD 1 0))
theorem ipList_of {l:List Int} (h:pairOkB l=true):ipList (ipOf l)=l:=by
 unfold pairOkB at h
 simp only [Bool.or_eq_true,Bool.and_eq_true,decide_eq_true_eq] at h
 rcases h with h|⟨⟨h,_⟩,_⟩
 ·have e:l=[]:=List.eq_nil_of_length_eq_zero h
  subst e;rfl
 ·match l,h with
  |[a,b],_=> rfl
theorem two_own (w:World) (x y:Int):ownI (w.alloc (.cells #[.int .i64 x,.int .i64 y] 3)) w.heap.size (.slice (some ⟨w.heap.size,0,none⟩) 2 2) [x,y]:=
 ⟨by simp [layI],.inr ⟨w.heap.size,2,#[.int .i64 x,.int .i64 y],rfl,Nat.le_refl _,heap_alloc_new w _,by simp,by unfold maxLen;omega,by simp [layI],by simp [layI]⟩⟩
theorem list_any (a:Ip) (w:World):
  Calls Tryz.prog 236 #[ipv a] w fun e w'=> ∃o c,e=.returned (.slice o (ipList a).length c)∧ownI w' w.heap.size (.slice o (ipList a).length c) (ipList a)∧Below w.heap.size w w':=by
 obtain ⟨s,x,y⟩:=a
 cases s with
 |false=>
  go_enter Tryz.func236,Tryz.ntmps236
  go_wp2
  go_ret
  exact ⟨none,0,rfl,World.ownsRow_nil _ _ _ _,by (repeat (first|with_reducible (first|exact hB|exact Below.refl _ _|refine Below.drew ?_|refine below_drewN ?_ _|refine Below.alloc ?_ ?_ _|refine Below.setCell ?_ ?_ _)|(focus (simp;first|done|omega))|omega))⟩
 |true=>
  go_enter Tryz.func236,Tryz.ntmps236
  go_wp2
  go_ret
  have h:=two_own (w.alloc (.cells #[.bool true,.int .i64 x,.int .i64 y] 297)) x y
  rw [World.size_alloc] at h
  exact ⟨_,_,rfl,own_mono h (Nat.le_succ _),by (repeat (first|with_reducible (first|exact hB|exact Below.refl _ _|refine Below.drew ?_|refine below_drewN ?_ _|refine Below.alloc ?_ ?_ _|refine Below.setCell ?_ ?_ _)|(focus (simp;first|done|omega))|omega))⟩
theorem isBackP_any (x:Int) (w:World):Calls Tryz.prog 74 #[.int .i64 x] w fun e w'=> e=.returned (.bool (idB x))∧w=w':=isBack_any x w
theorem idPairFrom_any (o:Option Addr) (cap:Nat) (l:List Int) (w:World) (hR:RdI w.heap.size w o l) (hlen:l.length≤1048576):
  Calls Tryz.prog 248 #[.slice o l.length cap] w fun e w'=> e=.returned (.tuple #[ipv (if pairOkB l=true then ipOf l else (false,0,0)),.bool (pairOkB l)])∧Below w.heap.size w w':=by
 by_cases h0:l.length=0
 ·have e:l=[]:=List.eq_nil_of_length_eq_zero h0
  subst e
  rw [show pairOkB []=true from rfl,show ipOf []=(false,0,0) from rfl]
  simp only [if_true]
  go_enter Tryz.func248,Tryz.ntmps248
  go_wp2
  refine bodyPost_ret (v:=.tuple #[ipv (false,0,0),.bool true]) (by simp [results,Tryz.results248,go_sem]) rfl ⟨rfl,by (repeat (first|with_reducible (first|exact hB|exact Below.refl _ _|refine Below.drew ?_|refine below_drewN ?_ _|refine Below.alloc ?_ ?_ _|refine Below.setCell ?_ ?_ _)|(focus (simp;first|done|omega))|omega))⟩
 ·by_cases h2:l.length=2
  ·match l,h2 with
   |[x,y],_=>
    rcases hR with hR|⟨b,off,rfl,hbl,hcell⟩
    ·cases hR
    have c0:w.cell? ⟨b,off,none⟩=some (.int .i64 x):=hcell 0 (by simp) 0 (by decide)
    have c1:w.cell? ⟨b,off+1,none⟩=some (.int .i64 y):=hcell 1 (by simp) 0 (by decide)
    have hx:=fun w=> isBackP_any x w
    have hy:=fun w=> isBackP_any y w
    have hE:pairOkB [x,y]=(idB x && idB y):=by simp [pairOkB]
    rw [hE,show ipOf [x,y]=(true,x,y) from rfl]
    clear hcell hE
    cases h3:idB x with
    |false=>
     rw [h3] at hx;try simp only [Bool.false_and,Bool.true_and,Bool.false_eq_true,if_false]
     go_enter Tryz.func248,Tryz.ntmps248
     go_wp2_with (first|(go_at_call 74;refine (hx _).mono ?_;rintro e w1 ⟨rfl,rfl⟩))
     refine bodyPost_ret (v:=.tuple #[ipv (false,0,0),.bool false]) (by simp [results,Tryz.results248,go_sem]) rfl ⟨rfl,by (repeat (first|with_reducible (first|exact hB|exact Below.refl _ _|refine Below.drew ?_|refine below_drewN ?_ _|refine Below.alloc ?_ ?_ _|refine Below.setCell ?_ ?_ _)|(focus (simp;first|done|omega))|omega))⟩
    |true=>
     rw [h3] at hx;try simp only [Bool.false_and,Bool.true_and,Bool.false_eq_true,if_false]
     cases h4:idB y with
     |false=>
      rw [h4] at hy;simp only [Bool.false_eq_true,if_false,if_true]
      go_enter Tryz.func248,Tryz.ntmps248
      go_wp2_with (first|(go_at_call 74;first|(refine (hx _).mono ?_;rintro e w1 ⟨rfl,rfl⟩)|(refine (hy _).mono ?_;rintro e w1 ⟨rfl,rfl⟩)))
      refine bodyPost_ret (v:=.tuple #[ipv (false,0,0),.bool false]) (by simp [results,Tryz.results248,go_sem]) rfl ⟨rfl,by (repeat (first|with_reducible (first|exact hB|exact Below.refl _ _|refine Below.drew ?_|refine below_drewN ?_ _|refine Below.alloc ?_ ?_ _|refine Below.setCell ?_ ?_ _)|(focus (simp;first|done|omega))|omega))⟩
     |true=>
      rw [h4] at hy;simp only [Bool.false_eq_true,if_false,if_true]
      go_enter Tryz.func248,Tryz.ntmps248
      go_wp2_with (first|(go_at_call 74;first|(refine (hx _).mono ?_;rintro e w1 ⟨rfl,rfl⟩)|(refine (hy _).mono ?_;rintro e w1 ⟨rfl,rfl⟩)))
      go_region
      all_goals (go_wp2;refine bodyPost_ret (v:=.tuple #[ipv (true,x,y),.bool true]) (by simp [results,Tryz.results248,go_sem]) rfl ⟨rfl,by (repeat (first|with_reducible (first|exact hB|exact Below.refl _ _|refine Below.drew ?_|refine below_drewN ?_ _|refine Below.alloc ?_ ?_ _|refine Below.setCell ?_ ?_ _)|(focus (simp;first|done|omega))|omega))⟩)
  ·rw [show pairOkB l=false by simp [pairOkB,h0,h2]]
   simp only [Bool.false_eq_true,if_false]
   have h2':((l.length:Int)==2)=false:=beq_eq_false_iff_ne.2 (by omega)
   go_enter Tryz.func248,Tryz.ntmps248
   go_wp2
   refine bodyPost_ret (v:=.tuple #[ipv (false,0,0),.bool false]) (by simp [results,Tryz.results248,go_sem]) rfl ⟨rfl,by (repeat (first|with_reducible (first|exact hB|exact Below.refl _ _|refine Below.drew ?_|refine below_drewN ?_ _|refine Below.alloc ?_ ?_ _|refine Below.setCell ?_ ?_ _)|(focus (simp;first|done|omega))|omega))⟩
abbrev Pt:=Nat→Ip
def ptL (f:Pt):List Value:=((List.range 8).map f).flatMap layP.cs
def ptA (f:Pt):Array Value:=(ptL f).toArray
abbrev ptv (f:Pt):Value:=.agg (ptA f)
def ptZ:Pt:=fun _=> (false,0,0)
def upd (f:Pt) (k:Nat) (p:Ip):Pt:=fun i=> if i=k then p else f i
theorem below_row {B g:Nat} {w0 w:World} (hb:Below B w0 w) (hBg:B≤g) (cs:Array Value):Below B w0 (w.setRow g cs):=⟨hb.os,hb.tape,hb.output,by simpa using hb.size,fun k hk=> (setRow_other w g k cs (by omega)).trans (hb.block k hk)⟩
theorem ptL_len (f:Pt):(ptL f).length=24:=rfl
theorem ptA_size (f:Pt):(ptA f).size=24:=rfl
theorem map_upd (f:Pt) (k:Nat) (p:Ip):((List.range 8).map f).set k p=(List.range 8).map (upd f k p):=by
 apply List.ext_getElem
 ·simp
 ·intro i h1 h2
  simp at h1 h2
  by_cases h:k=i
  ·subst h;simp [upd]
  ·have h':¬i=k:=fun e=> h e.symm
   simp [upd,h,h',List.getElem_set]
theorem ptL_upd (f:Pt) (k:Nat) (p:Ip):(((ptL f).set (k * 3) (.bool p.1)).set (k * 3+1) (.int .i64 p.2.1)).set (k * 3+2) (.int .i64 p.2.2)=ptL (upd f k p):=by
 unfold ptL
 rw [←map_upd]
 exact flat_set3 layP rfl rfl _ k
theorem ptA_upd (f:Pt) (k:Nat) (p:Ip):(((ptA f).setIfInBounds (k * 3) (.bool p.1)).setIfInBounds (k * 3+1) (.int .i64 p.2.1)).setIfInBounds (k * 3+2) (.int .i64 p.2.2)=ptA (upd f k p):=by
 unfold ptA
 rw [←ptL_upd]
 simp
theorem ptA_get (f:Pt) (j:Nat) (h:j < 24):∃u,(ptA f)[j]? =some u:=⟨_,Array.getElem?_eq_getElem (by rw [ptA_size];exact h)⟩
theorem ptA_part (f:Pt) (k:Nat) (h:k < 8):(ptA f).extract (k * 3) (k * 3+3)=#[.bool (f k).1,.int .i64 (f k).2.1,.int .i64 (f k).2.2]:=by
 match k,h with
 |0,_=> rfl
 |1,_=> rfl
 |2,_=> rfl
 |3,_=> rfl
 |4,_=> rfl
 |5,_=> rfl
 |6,_=> rfl
 |7,_=> rfl
 |n+8,h=> exact absurd h (by omega)
theorem ptA_one (f:Pt):(ptA f).all (·.oneCell')=true:=all_oneCell_toArray (fun v hv=> by
 unfold ptL at hv
 simp only [List.mem_flatMap,layP,List.mem_cons,List.not_mem_nil,or_false] at hv
 obtain ⟨a,_,rfl|rfl|rfl⟩:=hv <;> rfl)
theorem ptU:Tryz.prog.underlying 299=some (.array 8 297):=by kernel_rfl
theorem ptI:(Tryz.prog.info? 299).map (·.size)=some 24:=by kernel_rfl
theorem ptIf (f:Pt):(Tryz.prog.info? 299).map (·.size)=some (ptA f).size:=ptI
theorem ipI:(Tryz.prog.info? 297).map (·.size)=some 3:=by kernel_rfl
theorem ipAgg (w:World):(isAgg 297).run Tryz.prog w=.ok true w:=by
 simp [go_sem]
theorem ipSize (w:World):(sizeOf 297).run Tryz.prog w=.ok 3 w:=by
 have h:=ipI
 cases hq:Tryz.prog.info? 297 with
 |none=> simp [hq] at h
 |some i=>
  simp [hq] at h
  simp [sizeOf,typeInfo,hq,h]
theorem wpList_load_pt {ops:Array Oper} {rest:List Oper} {o:Oper} {a:Act} {w:World} {Q:Exit→Act→World→Prop} (hgd:o.guard=none) (x:Operand) (ho:o.op=.load 299 x)
  (g:Nat) (hx:a.eval x=.pointer (some ⟨g,0,none⟩)) (f:Pt) (hg:w.heap[g]? =some (.cells (ptA f) 299 (0,0)))
  (h:wpList Tryz.prog ops Q rest (a.put o.dst (ptv f)) w):wpList Tryz.prog ops Q (o::rest) a w:=
 wpList_load_row hgd _ x ho g hx _ _ _ _ hg ptU rfl (ptIf f) h
theorem wpList_store_pt {ops:Array Oper} {rest:List Oper} {o:Oper} {a:Act} {w:World} {Q:Exit→Act→World→Prop} (hgd:o.guard=none) (x y:Operand) (ho:o.op=.store 299 x y)
  (g:Nat) (f old:Pt) (hx:a.eval x=.pointer (some ⟨g,0,none⟩)) (hy:a.eval y=ptv f) (hg:w.heap[g]? =some (.cells (ptA old) 299 (0,0)))
  (h:wpList Tryz.prog ops Q rest (a.put o.dst undef) (w.setRow g (ptA f))):wpList Tryz.prog ops Q (o::rest) a w:=
 wpList_store_row hgd _ x y ho g (ptA f) hx hy _ _ hg (ptIf f) rfl (ptA_one f) h
theorem wpList_index_pt {ops:Array Oper} {rest:List Oper} {o:Oper} {a:Act} {w:World} {Q:Exit→Act→World→Prop} (hgd:o.guard=none) (x ix:Operand) (ho:o.op=.index 299 x ix)
  (f:Pt) (k:Nat) (hk:k < 8) (hx:a.eval x=ptv f) (hi:a.eval ix=.int .i64 (k:Int))
  (h:wpList Tryz.prog ops Q rest (a.put o.dst (ipv (f k))) w):wpList Tryz.prog ops Q (o::rest) a w:=
 wpList_plain hgd fun _ hK=> by
  have hk':(k:Int) < 8:=by omega
  unfold Oper.wp execOp
  simp only [ho,hx,hi,Instr.index,asIntOf,Sem.run_bind,Sem.run_pure,Result.andThen_ok,run_underlying ptU,part,ipAgg,ipSize]
  simp [hk',ptA_part f k hk,part,ipAgg,ipSize,Sem.run_bind]
  exact hK _ _ h
def tabOkB (ll:List (List Int)):Bool:=decide (ll.length=8) && (List.range 8).all (fun i=> pairOkB (ll.getD i []))
def tabF (ll:List (List Int)):Pt:=fun i=> ipOf (ll.getD i [])
def ptTo (ll:List (List Int)) (k:Nat):Pt:=fun i=> if i < k then ipOf (ll.getD i []) else (false,0,0)
def ptLL (f:Pt):List (List Int):=(List.range 8).map (fun i=> ipList (f i))
theorem ptA_congr {f g:Pt} (h:∀i,i < 8→f i=g i):ptA f=ptA g:=by
 unfold ptA ptL
 rw [List.map_congr_left (fun a ha=> h a (by simpa using ha))]
theorem far_block {w:World} {B b:Nat} (h:b≠B) (j:Nat) (u:Value):(w.setCell ⟨B,j,none⟩ u).heap[b]? =w.heap[b]? :=by
 by_cases hb:b < w.heap.size
 ·exact (grown_set w B j u).block b hb (by simp [h])
 ·have h1:w.heap[b]? =none:=Array.getElem?_eq_none (by omega)
  have h2:(w.setCell ⟨B,j,none⟩ u).heap[b]? =none:=Array.getElem?_eq_none (by simp;omega)
  rw [h1,h2]
theorem tabTo_zero (ll:List (List Int)):ptTo ll 0=ptZ:=by funext i;simp [ptTo,ptZ]
theorem tabTo_all (ll:List (List Int)):ptA (ptTo ll 8)=ptA (tabF ll):=ptA_congr (fun i hi=> by simp [ptTo,tabF,hi])
theorem ptTo_succ (ll:List (List Int)) (k:Nat):upd (ptTo ll k) k (ipOf (ll.getD k []))=ptTo ll (k+1):=by
 funext i
 unfold upd ptTo
 by_cases h:i=k
 ·subst h;simp
 ·by_cases h2:i < k
  ·simp [h,h2,show i < k+1 by omega]
  ·simp [h,h2,show ¬i < k+1 by omega]
theorem tabOk_no {ll:List (List Int)} {k:Nat} (hk:k < 8) (h:pairOkB (ll.getD k [])=false):tabOkB ll=false:=by
 unfold tabOkB
 have:(List.range 8).all (fun i=> pairOkB (ll.getD i []))=false:=by
  rw [List.all_eq_false]
  exact ⟨k,by simpa using hk,by rw [h];simp⟩
 rw [this,Bool.and_false]
theorem tabOk_yes {ll:List (List Int)} (h8:ll.length=8) (h:∀i,i < 8→pairOkB (ll.getD i [])=true):tabOkB ll=true:=by
 unfold tabOkB
 rw [decide_eq_true h8,Bool.true_and,List.all_eq_true]
 exact fun i hi=> h i (by simpa using hi)
theorem ok_next {ll:List (List Int)} {k:Nat} (h:∀i,i < k→pairOkB (ll.getD i [])=true) (hk:pairOkB (ll.getD k [])=true):∀i,i < k+1→pairOkB (ll.getD i [])=true:=fun i hi=> by
 rcases Nat.lt_succ_iff_lt_or_eq.1 hi with h'|h'
 ·exact h i h'
 ·subst h';exact hk
theorem results_pt {fn:Func} {p q:Tmp} (h:fn.results=#[.cell p 299,.tmp q]) (tmps:Array Value) (w:World) (g:Nat) (f:Pt) (hp:tmps.getD p undef=.pointer (some ⟨g,0,none⟩)) (hg:w.heap[g]? =some (.cells (ptA f) 299 (0,0))):
  (results fn tmps).run Tryz.prog w=.ok (.tuple #[ptv f,tmps.getD q undef]) w:=by
 have hp':tmps[p]?.getD undef=.pointer (some ⟨g,0,none⟩):=by simpa using hp
 simp [results,h,hp',asAddr,run_loadVar_row w g 299 299 (ptA f) (0,0) _ hg ptU rfl (ptIf f)]
theorem pairTableFrom_any (o:Option Addr) (cap:Nat) (ll:List (List Int)) (w:World) (hR:RdLL w.heap.size w o ll) (hl:ll.length≤1048576) (hx:∀i,i < ll.length→(ll.getD i []).length≤1048576):
  Calls Tryz.prog 234 #[.slice o ll.length cap] w fun e w'=> e=.returned (.tuple #[ptv (if tabOkB ll=true then tabF ll else ptZ),.bool (tabOkB ll)])∧Below w.heap.size w w':=by
 obtain ⟨W0,hW0⟩:∃W,((w.alloc (.cells #[.bool false,.int .i64 0,.int .i64 0,.bool false,.int .i64 0,.int .i64 0,.bool false,.int .i64 0,.int .i64 0,.bool false,.int .i64 0,.int .i64 0,.bool false,.int .i64 0,.int .i64 0,.bool false,.int .i64 0,.int .i64 0,.bool false,.int .i64 0,.int .i64 0,.bool false,.int .i64 0,.int .i64 0] 299)).alloc (.cells #[.bool false,.int .i64 0,.int .i64 0,.bool false,.int .i64 0,.int .i64 0,.bool false,.int .i64 0,.int .i64 0,.bool false,.int .i64 0,.int .i64 0,.bool false,.int .i64 0,.int .i64 0,.bool false,.int .i64 0,.int .i64 0,.bool false,.int .i64 0,.int .i64 0,.bool false,.int .i64 0,.int .i64 0] 299))=W:=⟨_,rfl⟩
 have hb0:Below w.heap.size w W0:=by rw [←hW0];exact ((Below.refl _ _).alloc (Nat.le_refl _) _).alloc (by simp) _
 have hz2:W0.heap[w.heap.size]? =some (.cells (ptA ptZ) 299 (0,0)):=by rw [←hW0];exact box_old2 w _ _ _
 have hz4:W0.heap[w.heap.size+1]? =some (.cells (ptA ptZ) 299 (0,0)):=by rw [←hW0];exact box_new2 w _ _ _
 have hs0:W0.heap.size=w.heap.size+1+1:=by rw [←hW0];simp
 have HB0:=hide hb0
 have HZ2:=hide hz2
 have HZ4:=hide hz4
 clear hb0 hz2 hz4
 by_cases h8:ll.length=8
 ·rw [h8]
  have H8:=hide h8
  clear h8 hl
  have HR:=hide hR
  have HX:=hide hx
  clear hR hx
  obtain ⟨A,hA⟩:∃A,(.tuple #[ptv (if tabOkB ll=true then tabF ll else ptZ),.bool (tabOkB ll)]:Value)=A:=⟨_,rfl⟩
  rw [hA]
  have HA:=hide hA
  clear hA
  go_enter Tryz.func234,Tryz.ntmps234
  go_wp2
  go_loopw [15] (fun iv wr=> ∃k:Nat,k≤8∧iv=.int .i64 (k:Int)∧Hid (wr.heap[w.heap.size]? =some (.cells (ptA ptZ) 299 (0,0)))∧Hid (wr.heap[w.heap.size+1]? =some (.cells (ptA (ptTo ll k)) 299 (0,0)))∧Hid (∀i,i < k→pairOkB (ll.getD i [])=true)∧Hid (Below w.heap.size w wr))
   (fun iv _=> 8 - (intOf iv).toNat)
  case atStart=> exact ⟨0,Nat.zero_le _,rfl,HZ2.out,by rw [tabTo_zero];exact HZ4.out,fun i hi=> absurd hi (Nat.not_lt_zero _),HB0.out⟩
  case round=>
   obtain ⟨k,hk,rfl,H2,H4,HOK,HBr⟩:=hrel
   clear HZ2 HZ4 HB0 hs0 hW0
   have hs4:=(Array.getElem?_eq_some_iff.1 H4.out).1
   by_cases hlt:k < 8
   ·have hlt':(k:Int) < 8:=by omega
    obtain ⟨b,off,o',c',rfl,hb,hc,hr⟩:=((HR.out.kept HBr.out (Nat.le_refl _)).le HBr.out.size).at (Nat.le_refl _) k (by rw [H8.out];exact hlt)
    have hp:=idPairFrom_any o' c' (ll.getD k []) wr hr (HX.out k (by rw [H8.out];exact hlt))
    clear hr
    cases hq:pairOkB (ll.getD k []) with
    |false=>
     rw [hq] at hp
     simp only [Bool.false_eq_true,if_false] at hp
     have hA':A=.tuple #[ptv ptZ,.bool false]:=by rw [←HA.out,tabOk_no hlt hq];rfl
     clear hq HA
     subst hA'
     generalize (ll.getD k []).length=q at *
     go_wp2_with fail
     refine hp.mono ?_
     rintro e v1 ⟨rfl,hb1⟩
     have h2:=hide ((hb1.block _ (show w.heap.size < wr.heap.size by omega)).trans H2.out)
     have HB1:=hide (HBr.out.trans (hb1.mono HBr.out.size))
     have hs1:=hb1.size
     clear hb1 hp
     have H2':Hid ((v1.alloc (.cells #[.bool false,.int .i64 0,.int .i64 0] 297)).heap[w.heap.size]? =some (.cells (ptA ptZ) 299 (0,0))):=(Below.heap_alloc _ _ _ (by omega)).trans h2.out
     have HB2:Hid (Below w.heap.size w (v1.alloc (.cells #[.bool false,.int .i64 0,.int .i64 0] 297))):=HB1.out.alloc HB1.out.size _
     clear HB1 h2
     go_wp2_with (first|(refine wpList_store_pt rfl (.tmp 2) (.tmp 27) rfl w.heap.size ptZ ptZ rfl rfl H2'.out ?_))
     refine bodyPost_ret (results_pt rfl _ _ w.heap.size ptZ rfl (setRow_heap _ _ _ _ _ _ H2'.out)) rfl ⟨rfl,below_row HB2.out (Nat.le_refl _) _⟩
    |true=>
     rw [hq] at hp
     simp only [if_true] at hp
     have HQ:=hide hq
     have HS:=hide (ptTo_succ ll k)
     obtain ⟨p,hpe⟩:∃p,ipOf (ll.getD k [])=p:=⟨_,rfl⟩
     rw [hpe] at hp HS
     clear hpe hq
     obtain ⟨s,x,y⟩:=p
     generalize (ll.getD k []).length=q at *
     go_wp2_with fail
     refine hp.mono ?_
     rintro e v1 ⟨rfl,hb1⟩
     have h2:=hide ((hb1.block _ (show w.heap.size < wr.heap.size by omega)).trans H2.out)
     have h4:=hide ((hb1.block _ hs4).trans H4.out)
     have HB1:=hide (HBr.out.trans (hb1.mono HBr.out.size))
     have hs1:=hb1.size
     clear hb1 hp
     obtain ⟨W1,hW1⟩:∃W,v1.alloc (.cells #[.bool s,.int .i64 x,.int .i64 y] 297)=W:=⟨_,rfl⟩
     have h2':W1.heap[w.heap.size]? =some (.cells (ptA ptZ) 299 (0,0)):=by rw [←hW1];exact (Below.heap_alloc _ _ _ (by omega)).trans h2.out
     have h4':W1.heap[w.heap.size+1]? =some (.cells (ptA (ptTo ll k)) 299 (0,0)):=by rw [←hW1];exact (Below.heap_alloc _ _ _ (by omega)).trans h4.out
     have u0:W1.cell? ⟨v1.heap.size,0,none⟩=some (.bool s):=by rw [←hW1];simp [go_sem]
     have u1:W1.cell? ⟨v1.heap.size,1,none⟩=some (.int .i64 x):=by rw [←hW1];simp [go_sem]
     have u2:W1.cell? ⟨v1.heap.size,2,none⟩=some (.int .i64 y):=by rw [←hW1];simp [go_sem]
     have HB2:Hid (Below w.heap.size w W1):=by rw [←hW1];exact HB1.out.alloc HB1.out.size _
     obtain ⟨q0,e0⟩:=ptA_get (ptTo ll k) (k * 3) (by omega)
     obtain ⟨q1,e1⟩:=ptA_get (ptTo ll k) (k * 3+1) (by omega)
     obtain ⟨q2,e2⟩:=ptA_get (ptTo ll k) (k * 3+2) (by omega)
     have a0:W1.cell? ⟨w.heap.size+1,k * 3,none⟩=some q0:=bx_cell h4' _ _ e0
     have g0:=bx_frozen h4' (k * 3)
     have h5:=box_put h4' (k * 3) (.bool s)
     obtain ⟨W2,hW2⟩:∃W,W1.setCell ⟨w.heap.size+1,k * 3,none⟩ (.bool s)=W:=⟨_,rfl⟩
     rw [hW2] at h5
     have a1:W2.cell? ⟨w.heap.size+1,k * 3+1,none⟩=some q1:=bx_cell h5 _ _ (by rw [Array.getElem?_setIfInBounds_ne (by omega)];exact e1)
     have g1:=bx_frozen h5 (k * 3+1)
     have h6:=box_put h5 (k * 3+1) (.int .i64 x)
     obtain ⟨W3,hW3⟩:∃W,W2.setCell ⟨w.heap.size+1,k * 3+1,none⟩ (.int .i64 x)=W:=⟨_,rfl⟩
     rw [hW3] at h6
     have a2:W3.cell? ⟨w.heap.size+1,k * 3+2,none⟩=some q2:=bx_cell h6 _ _ (by rw [Array.getElem?_setIfInBounds_ne (by omega),Array.getElem?_setIfInBounds_ne (by omega)];exact e2)
     have g2:=bx_frozen h6 (k * 3+2)
     have h7:=box_put h6 (k * 3+2) (.int .i64 y)
     obtain ⟨W4,hW4⟩:∃W,W3.setCell ⟨w.heap.size+1,k * 3+2,none⟩ (.int .i64 y)=W:=⟨_,rfl⟩
     rw [hW4] at h7
     have H4n:Hid (W4.heap[w.heap.size+1]? =some (.cells (ptA (ptTo ll (k+1))) 299 (0,0))):=by rw [←HS.out,←ptA_upd];exact h7
     have H2n:Hid (W4.heap[w.heap.size]? =some (.cells (ptA ptZ) 299 (0,0))):=by
      rw [←hW4,←hW3,←hW2]
      exact (far_block (by omega) _ _).trans ((far_block (by omega) _ _).trans ((far_block (by omega) _ _).trans h2'))
     have HBn:Hid (Below w.heap.size w W4):=by
      rw [←hW4,←hW3,←hW2]
      exact ((HB2.out.setCell (p:=⟨w.heap.size+1,k * 3,none⟩) (Nat.le_succ _) _).setCell (p:=⟨w.heap.size+1,k * 3+1,none⟩) (Nat.le_succ _) _).setCell (p:=⟨w.heap.size+1,k * 3+2,none⟩) (Nat.le_succ _) _
     clear h5 h6 h7 h4' h2' e0 e1 e2 h2 h4 HB1 HB2 HS
     go_wp2
     go_roundw
     case rel=> exact ⟨k+1,by omega,by go_num,H2n.out,H4n.out,(ok_next HOK.out HQ.out),HBn.out⟩
     case measure=> simp [intOf];omega
   ·have e:k=8:=by omega
    subst e
    have hA':A=.tuple #[ptv (ptTo ll 8),.bool true]:=by rw [←HA.out,tabOk_yes H8.out HOK.out,if_pos rfl];unfold ptv;rw [tabTo_all]
    clear HA
    subst hA'
    go_wp2_with (first|(refine wpList_load_pt rfl (.tmp 4) rfl (w.heap.size+1) rfl _ H4.out ?_)|(refine wpList_store_pt rfl (.tmp 2) (.tmp 32) rfl w.heap.size _ ptZ rfl rfl H2.out ?_))
    refine bodyPost_ret (results_pt rfl _ _ w.heap.size _ rfl (setRow_heap _ _ _ _ _ _ H2.out)) rfl ⟨rfl,below_row HBr.out (Nat.le_refl _) _⟩
 ·rw [show tabOkB ll=false by unfold tabOkB;rw [decide_eq_false h8,Bool.false_and]]
  simp only [Bool.false_eq_true,if_false]
  have h8':((ll.length:Int)==8)=false:=beq_eq_false_iff_ne.2 (by omega)
  have h8n:¬((ll.length:Int)=8):=by omega
  go_enter Tryz.func234,Tryz.ntmps234
  go_wp2_with (first|(refine wpList_load_pt rfl (.tmp 4) rfl (w.heap.size+1) rfl _ HZ4.out ?_)|(refine wpList_store_pt rfl (.tmp 2) (.tmp 12) rfl w.heap.size _ ptZ rfl rfl HZ2.out ?_))
  refine bodyPost_ret (results_pt rfl _ _ w.heap.size _ rfl (setRow_heap _ _ _ _ _ _ HZ2.out)) rfl ⟨rfl,below_row HB0.out (Nat.le_refl _) _⟩
theorem ptLL_len (f:Pt):(ptLL f).length=8:=by simp [ptLL]
theorem ptLL_succ (f:Pt) (k:Nat) (h:k < 8):(ptLL f).take (k+1)=(ptLL f).take k++[ipList (f k)]:=by
 have hk:k < (ptLL f).length:=by rw [ptLL_len];exact h
 rw [List.take_succ_eq_append_getElem hk]
 simp [ptLL]
theorem ptLL_all (f:Pt):(ptLL f).take 8=ptLL f:=List.take_of_length_le (by rw [ptLL_len];exact Nat.le_refl _)
theorem stp_set (w:World) (B j:Nat) (u:Value):Stp B (B+1) w (w.setCell ⟨B,j,none⟩ u):=Stp.grown (grown_set w B j u) (fun b e=> by injection e with e;omega)
theorem lists_any (f:Pt) (w:World):
  Calls Tryz.prog 214 #[ptv f] w fun e w'=> ∃v,e=.returned v∧InT w.heap.size w'.heap.size w' v (ptLL f)∧Below w.heap.size w w':=by
 obtain ⟨i0,hi,hz0,hz1,hz2⟩:=info_parts infoIntS
 obtain ⟨W0,hW0⟩:∃W,(w.alloc (.cells (ptA f) 299))=W:=⟨_,rfl⟩
 have hb0:Below w.heap.size w W0:=by rw [←hW0];exact (Below.refl _ _).alloc (Nat.le_refl _) _
 have z0:W0.heap[w.heap.size]? =some (.cells (ptA f) 299 (0,0)):=by rw [←hW0];exact World.alloc_heap_new w _
 have hs0:W0.heap.size=w.heap.size+1:=by rw [←hW0];simp
 have HZ:=hide z0
 have HB0:=hide hb0
 have HS0:=hide hs0
 clear z0 hb0 hs0
 go_enter Tryz.func214,Tryz.ntmps214
 go_wp2_with (first|(at_make;refine wpList_make_full _ rfl _ _ 228 rfl W0.heap.size 60 i0 (.slice none 0 0) 1 Tryz.underlying228 hi hz0 hz1 _ _ _ _ 8 rfl rfl rfl rfl ?b2 ?b3 ?b4 ?_))
 case b2=> rw [hz2];omega
 case b3=> unfold maxLen;omega
 case b4=> simp
 intro w3 hown hgrow
 have hb3:Below W0.heap.size W0 w3:=(Below.refl _ _).grown hgrow (Nat.le_refl _) (fun k h=> by cases h)
 have ho3:w3.ownsRow (w.heap.size+1) 60 1 (.slice (some ⟨W0.heap.size,0,none⟩) 8 8) 8 ((([]:List Hd)++List.replicate (8 - 0) layH.d).flatMap layH.cs):=by
  rw [List.nil_append,Nat.sub_zero,←made_flat layH (.slice none 0 0) rfl,show layH.k=1 from rfl,Nat.mul_one];exact own_mono hown (by have:=HS0.out;omega)
 have HZ3:=hide ((hb3.block w.heap.size (by have:=HS0.out;omega)).trans HZ.out)
 have HB3:=hide (HB0.out.trans (hb3.mono HB0.out.size))
 have hs3:W0.heap.size+1≤w3.heap.size:=(hown.lt W0.heap.size rfl).2
 have HO3:=hide ho3
 clear hown hgrow hb3 ho3 HZ HB0
 go_wp2_with (first|(refine wpList_load_pt rfl (.tmp 1) rfl w.heap.size rfl f HZ3.out ?_))
 go_loopw [8] (fun iv wr=> ∃(k:Nat) (hs:List Hd) (L H:Nat→Nat),k≤8∧iv=.int .i64 (k:Int)∧Hid (wr.ownsRow (w.heap.size+1) 60 1 (.slice (some ⟨W0.heap.size,0,none⟩) 8 8) 8 ((hs++List.replicate (8 - k) layH.d).flatMap layH.cs))∧Hid (Rw InI [] ((ptLL f).take k) (W0.heap.size+1) wr.heap.size wr hs L H)∧Hid (Below w.heap.size w wr)∧W0.heap.size+1≤wr.heap.size)
  (fun iv _=> 8 - (intOf iv).toNat)
 case atStart=> exact ⟨0,[],fun _=> 0,fun _=> 0,Nat.zero_le _,rfl,HO3.out,by rw [List.take_zero];exact Rw.nil _ _ _ _ _ _ _,HB3.out,hs3⟩
 case round=>
  obtain ⟨k,hs,L,H,hk8,rfl,HO,HR,HBr,hsr⟩:=hrel
  clear HO3 HZ3 HB3 hs3
  have hhl:hs.length=k:=by have h1:=HR.out.len;rw [List.length_take,ptLL_len] at h1;omega
  by_cases hlt:k < 8
  ·have z1:(k:Int) < 8:=by omega
   have HS:=hide (ptLL_succ f k hlt)
   obtain ⟨p,hp⟩:∃p,f k=p:=⟨_,rfl⟩
   have HP:=hide hp
   rw [hp] at HS
   clear hp
   obtain ⟨s,x,y⟩:=p
   obtain ⟨W1,hW1⟩:∃W,wr.alloc (.cells #[.bool s,.int .i64 x,.int .i64 y] 297)=W:=⟨_,rfl⟩
   have hb1:Below wr.heap.size wr W1:=by rw [←hW1];exact (Below.refl _ _).alloc (Nat.le_refl _) _
   have u0:W1.cell? ⟨wr.heap.size,0,none⟩=some (.bool s):=by rw [←hW1];simp [go_sem]
   have u1:W1.cell? ⟨wr.heap.size,1,none⟩=some (.int .i64 x):=by rw [←hW1];simp [go_sem]
   have u2:W1.cell? ⟨wr.heap.size,2,none⟩=some (.int .i64 y):=by rw [←hW1];simp [go_sem]
   have HL:=hide (list_any (s,x,y) W1)
   have HO1:=hide (own_kept HO.out hb1)
   have HR1:=hide (HR.out.kept InI.stp hb1)
   have HB1:=hide (HBr.out.trans (hb1.mono HBr.out.size))
   have hs1:=hb1.size
   clear hb1 HO HR HBr
   go_wp2_with (first|(refine wpList_index_pt rfl (.tmp 7) (.tmp 8) rfl f k hlt rfl rfl ?_;rw [HP.out])|fail)
   refine HL.out.mono ?_
   rintro e v1 ⟨o4,c4,rfl,ow4,hb4⟩
   have HO4:=hide (own_kept HO1.out hb4)
   have hln:((hs++List.replicate (8 - k) layH.d).flatMap layH.cs).length=8:=by rw [flat_length,List.length_append,List.length_replicate,hhl,show layH.k=1 from rfl];omega
   have hcl:=HO4.out.cellAt k (by omega)
   have hfr:=HO4.out.frozenAt k
   obtain ⟨u,hu⟩:∃u,v1.cell? ⟨W0.heap.size,k,none⟩=some u:=⟨_,hcl.trans (List.getElem?_eq_getElem (by omega))⟩
   have HO5:=hide (fillT_step (o:=o4) (m:=(ipList (s,x,y)).length) (c:=c4) hlt hhl HO4.out)
   have HR4:=(HR1.out.kept InI.stp hb4).snoc (l2:=W1.heap.size) (h2:=v1.heap.size) hs1 (by omega) hb4.size (x:=ipList (s,x,y)) (o:=o4) (m:=(ipList (s,x,y)).length) (c:=c4) (InRow.of ow4)
   rw [←HS.out] at HR4
   have HR5:=HR4.step InI.stp (stp_set v1 W0.heap.size k (.slice o4 (ipList (s,x,y)).length c4)) (fun i hi=> .inl (HR4.bd i hi).1)
   have HR6:Hid (Rw InI [] ((ptLL f).take (k+1)) (W0.heap.size+1) (v1.setCell ⟨W0.heap.size,k,none⟩ (.slice o4 (ipList (s,x,y)).length c4)).heap.size (v1.setCell ⟨W0.heap.size,k,none⟩ (.slice o4 (ipList (s,x,y)).length c4)) _ _ _):=HR5.mono (Nat.le_refl _) (by simp)
   have HB5:=hide ((HB1.out.trans (hb4.mono HB1.out.size)).setCell (p:=⟨W0.heap.size,k,none⟩) (show w.heap.size≤W0.heap.size by have:=HS0.out;omega) (.slice o4 (ipList (s,x,y)).length c4))
   have hs5:W0.heap.size+1≤v1.heap.size:=by have:=hb4.size;omega
   clear ow4 hb4 hcl HR4 HR5 hln HL
   generalize (ipList (s,x,y)).length=q at *
   go_wp2
   go_roundw
   case rel=> exact ⟨k+1,_,_,_,by omega,by go_num,HO5.out,HR6.out,HB5.out,by simpa using hs5⟩
   case measure=> simp [intOf];omega
  ·have e:k=8:=by omega
   subst e
   go_wp2
   go_ret
   have h1:=HO.out
   rw [Nat.sub_self,List.replicate_zero,List.append_nil] at h1
   have h2:=HR.out
   rw [ptLL_all] at h2
   have hs0:=HS0.out
   have h3:∀b,(Value.slice (some ⟨W0.heap.size,0,none⟩) 8 8).ownBlock=some b→b=W0.heap.size:=fun b e=> (Option.some.inj e).symm
   have h4:InT w.heap.size wr.heap.size wr (.slice (some ⟨W0.heap.size,0,none⟩) 8 8) (ptLL f):=by
    refine ⟨hs,L,H,⟨own_mono (base:=w.heap.size+1) (by rw [hhl];exact h1) (Nat.le_succ _),fun b e=> ?_⟩,h2.mono (by omega) (Nat.le_refl _),fun i hi b e=> ?_⟩
    ·have:=h3 b e;omega
    ·have:=h3 b e
     have:=h2.bd i hi
     omega
   exact ⟨_,rfl,h4,HBr.out⟩
theorem bx_allP {W:World} {B:Nat} {x y z:Value} {T:TypeId} (h:W.heap[B]? =some (.cells #[x,y,z] T (0,0))):W.cell? ⟨B,0,none⟩=some x∧W.cell? ⟨B,1,none⟩=some y∧W.cell? ⟨B,2,none⟩=some z∧W.frozen? ⟨B,0,none⟩=false∧W.frozen? ⟨B,1,none⟩=false∧W.frozen? ⟨B,2,none⟩=false:=
 ⟨bx_cell h 0 _ rfl,bx_cell h 1 _ rfl,bx_cell h 2 _ rfl,bx_frozen h 0,bx_frozen h 1,bx_frozen h 2⟩
theorem setP_belowT {C:Nat} {w W:World} {B:Nat} (h:Below C w W) (hB:C≤B) (x y z:Value):Below C w (setP W B x y z):=((h.setCell (p:=⟨B,0,none⟩) hB _).setCell (p:=⟨B,1,none⟩) hB _).setCell (p:=⟨B,2,none⟩) hB _
theorem setP_sizeT (W:World) (B:Nat) (x y z:Value):(setP W B x y z).heap.size=W.heap.size:=by simp [World.setCell]
theorem stp_setT (W:World) (B:Nat) (x y z:Value):Stp B (B+1) W (setP W B x y z):=((stp_set W B 0 x).trans (stp_set _ B 1 y)).trans (stp_set _ B 2 z)
theorem in_monoT {lo lo' hi:Nat} {w:World} {v:Value} {m:Pm} (h:InPm lo hi w v m) (hl:lo'≤lo):InPm lo' hi w v m:=by
 obtain ⟨vb,vr,mid,e,k1,k2,h1,h2⟩:=h
 exact ⟨vb,vr,mid,e,by omega,k2,InRow.mono h1 hl (Nat.le_refl _),h2⟩
theorem box_new3 (w:World) (c:Array Value) (T:TypeId) (o1 o2:Obj):(((w.alloc o1).alloc o2).alloc (.cells c T)).heap[w.heap.size+1+1]? =some (.cells c T (0,0)):=by
 have h:=World.alloc_heap_new ((w.alloc o1).alloc o2) (.cells c T)
 rw [World.size_alloc,World.size_alloc] at h
 exact h
theorem box_mid3 (w:World) (c:Array Value) (T:TypeId) (o1 o2:Obj):(((w.alloc o1).alloc (.cells c T)).alloc o2).heap[w.heap.size+1]? =some (.cells c T (0,0)):=by
 have h:=box_new2 w c T o1
 exact (Below.heap_alloc _ _ _ (by simp)).trans h
theorem fillU_step {T:TypeId} {wr:World} {base g:Nat} {hs:List Hd} {k n:Nat} {o:Option Addr} {m c:Nat} (hk:k < n) (hl:hs.length=k) (h:wr.ownsRow base T 1 (.slice (some ⟨g,0,none⟩) n n) n ((hs++List.replicate (n - k) layH.d).flatMap layH.cs)):
  (wr.setCell ⟨g,k,none⟩ (.slice o m c)).ownsRow base T 1 (.slice (some ⟨g,0,none⟩) n n) n (((hs++[(o,m,c)])++List.replicate (n - (k+1)) layH.d).flatMap layH.cs):=by
 have h1:=(h.stored k (.slice o m c)).1
 rw [flat_set1 layH rfl (a:=(o,m,c)) rfl] at h1
 have e1:n - k=(n - (k+1))+1:=by omega
 rw [e1,List.replicate_succ,List.set_append_right _ _ (by omega),hl,Nat.sub_self,List.set_cons_zero] at h1
 rw [List.append_assoc]
 exact h1
theorem RiT.at {a C:Nat} {w:World} {o:Option Addr} {n c:Nat} {ll:List (List Int)} (h:RiT a C w (.slice o n c) ll) (hC:C≤w.heap.size) (i:Nat) (hi:i < ll.length):∃b off o' c',o=some ⟨b,off,none⟩∧b < C∧w.cell? ⟨b,off+i,none⟩=some (.slice o' (ll.getD i []).length c')∧RdI C w o' (ll.getD i []):=by
 obtain ⟨hs,h0,h1,h2⟩:=h
 obtain ⟨o1,c1,e,r⟩:=h1.open
 injection e with e1 e2 e3
 subst e1
 rcases r with r|⟨b,off,ho,hb,r⟩
 ·subst r;simp at h0;omega
 ·obtain ⟨o',c',e',r'⟩:=(h2 i hi).open
  have hc:=RdL.head r i (by omega)
  unfold hv at e'
  rw [e'] at hc
  exact ⟨b,off,o',c',ho,hb,hc,r'⟩
theorem toIntSS_in (v:Value) (xs:List (List Int)) (w:World) (hR:RiT 0 w.heap.size w v xs) (hlen:xs.length≤1048576) (hx:∀i,i < xs.length→(xs.getD i []).length≤1048576):
  Calls Tryz.prog 195 #[v] w fun e w'=> ∃v',e=.returned v'∧InT w.heap.size w'.heap.size w' v' xs∧Below w.heap.size w w':=by
 obtain ⟨o,cap,ev⟩:∃o c,v=.slice o xs.length c:=by
  obtain ⟨hs,h0,⟨o,c,e,_⟩,_⟩:=hR
  exact ⟨o,c,by rw [e,h0]⟩
 subst ev
 obtain ⟨i0,hi,hz0,hz1,hz2⟩:=info_parts infoIntS
 have HR0:=hide hR
 clear hR
 go_enter Tryz.func195,Tryz.ntmps195
 go_wp2_with (at_make;refine wpList_make_full _ rfl _ _ 228 rfl w.heap.size 60 i0 (.slice none 0 0) 1 Tryz.underlying228 hi hz0 hz1 _ _ _ _ xs.length rfl rfl rfl rfl ?b2 ?b3 ?b4 ?_)
 case b2=> rw [hz2];omega
 case b3=> unfold maxLen;omega
 case b4=> simp
 intro w3 hown hgrow
 have HB3:=hide (show Below w.heap.size w w3 from (Below.refl _ _).grown hgrow (Nat.le_refl _) (fun k h=> by cases h))
 have HO3:Hid (w3.ownsRow w.heap.size 60 1 (.slice (some ⟨w.heap.size,0,none⟩) xs.length xs.length) xs.length ((([]:List Hd)++List.replicate (xs.length - 0) layH.d).flatMap layH.cs)):=by
  rw [List.nil_append,Nat.sub_zero,←made_flat layH (.slice none 0 0) rfl,show layH.k=1 from rfl,Nat.mul_one];exact hown
 have hs3:w.heap.size+1≤w3.heap.size:=(hown.lt w.heap.size rfl).2
 clear hown hgrow
 go_wp2
 go_loopw [4] (fun iv wr=> ∃(k:Nat) (hs:List Hd) (L H:Nat→Nat),k≤xs.length∧iv=.int .i64 (k:Int)∧Hid (wr.ownsRow w.heap.size 60 1 (.slice (some ⟨w.heap.size,0,none⟩) xs.length xs.length) xs.length ((hs++List.replicate (xs.length - k) layH.d).flatMap layH.cs))∧Hid (Rw InI [] (xs.take k) (w.heap.size+1) wr.heap.size wr hs L H)∧Hid (Below w.heap.size w wr)∧w.heap.size+1≤wr.heap.size)
  (fun iv _=> xs.length - (intOf iv).toNat)
 case atStart=> exact ⟨0,[],fun _=> 0,fun _=> 0,Nat.zero_le _,rfl,HO3.out,by rw [List.take_zero];exact Rw.nil _ _ _ _ _ _ _,HB3.out,hs3⟩
 case round=>
  obtain ⟨k,hs,L,H,hk8,rfl,HO,HR,HBr,hsr⟩:=hrel
  clear HO3 HB3 hs3
  have hhl:hs.length=k:=by have h1:=HR.out.len;rw [List.length_take] at h1;omega
  by_cases hlt:k < xs.length
  ·have z1:(k:Int) < (xs.length:Int):=by omega
   have HS:=hide (show xs.take (k+1)=xs.take k++[xs.getD k []] by rw [List.take_succ_eq_append_getElem hlt];simp [hlt])
   obtain ⟨b,off,o',c',rfl,hbl,hc0,hr0⟩:=HR0.out.at (Nat.le_refl _) k hlt
   have hc:=bC HBr.out hc0 hbl
   have hbw:b < wr.heap.size:=by omega
   have HL:=hide (toIntS_any o' c' (xs.getD k []) wr ((hr0.kept HBr.out (Nat.le_refl _)).le HBr.out.size) (hx k hlt))
   have HXL:=hide hlen
   clear hc0 hr0
   have HHL:=hide hhl
   have hxs:=HXL.out
   clear hxs
   obtain ⟨row,hrow⟩:∃r,xs.getD k []=r:=⟨_,rfl⟩
   rw [hrow] at HL hc HS
   clear hrow
   obtain ⟨q,hq⟩:∃q,row.length=q:=⟨_,rfl⟩
   rw [hq] at HL hc
   have HQ:=hide hq
   clear hq
   go_wp2_with fail
   refine HL.out.mono ?_
   rintro e v1 ⟨g4,rfl,ow4,hb4⟩
   obtain ⟨o4,ho4⟩:∃o:Option Addr,some ⟨g4,0,none⟩=o:=⟨_,rfl⟩
   rw [ho4] at ow4 ⊢
   have HIN:Hid (InI wr.heap.size v1.heap.size v1 (.slice o4 q q) row):=InRow.of ow4
   clear ow4
   have HO4:=hide (own_kept HO.out hb4)
   have hln:((hs++List.replicate (xs.length - k) layH.d).flatMap layH.cs).length=xs.length:=by rw [flat_length,List.length_append,List.length_replicate,HHL.out,show layH.k=1 from rfl];omega
   have hcl:=HO4.out.cellAt k (by omega)
   have hfr:=HO4.out.frozenAt k
   obtain ⟨u,hu⟩:∃u,v1.cell? ⟨w.heap.size,k,none⟩=some u:=⟨_,hcl.trans (List.getElem?_eq_getElem (by omega))⟩
   have HO5:=hide (fillU_step (o:=o4) (m:=q) (c:=q) hlt HHL.out HO4.out)
   have HR4:=(HR.out.kept InI.stp hb4).snoc (l2:=wr.heap.size) (h2:=v1.heap.size) (Nat.le_refl _) (by omega) hb4.size (x:=row) (o:=o4) (m:=q) (c:=q) HIN.out
   rw [←HS.out] at HR4
   have HR5:=HR4.step InI.stp (stp_set v1 w.heap.size k (.slice o4 q q)) (fun i hi=> .inl (HR4.bd i hi).1)
   have HR6:Hid (Rw InI [] (xs.take (k+1)) (w.heap.size+1) (v1.setCell ⟨w.heap.size,k,none⟩ (.slice o4 q q)).heap.size (v1.setCell ⟨w.heap.size,k,none⟩ (.slice o4 q q)) _ _ _):=HR5.mono (Nat.le_refl _) (by simp)
   have HB5:=hide ((HBr.out.trans (hb4.mono HBr.out.size)).setCell (p:=⟨w.heap.size,k,none⟩) (Nat.le_refl _) (.slice o4 q q))
   have hs5:w.heap.size+1≤v1.heap.size:=by have:=hb4.size;omega
   clear hb4 hcl HR4 HR5 hln HL hhl hc
   go_wp2
   go_roundw
   case rel=> exact ⟨k+1,_,_,_,by omega,by go_num,HO5.out,HR6.out,HB5.out,by simpa using hs5⟩
   case measure=> simp [intOf];omega
  ·have e:k=xs.length:=by omega
   subst e
   go_wp2
   go_ret
   have h1:=HO.out
   rw [Nat.sub_self,List.replicate_zero,List.append_nil] at h1
   have h2:=HR.out
   rw [List.take_length] at h2
   have h3:∀b,(Value.slice (some ⟨w.heap.size,0,none⟩) xs.length xs.length).ownBlock=some b→b=w.heap.size:=fun b e=> (Option.some.inj e).symm
   have h4:InT w.heap.size wr.heap.size wr (.slice (some ⟨w.heap.size,0,none⟩) xs.length xs.length) xs:=by
    refine ⟨hs,L,H,⟨by rw [hhl];exact h1,fun b e=> ?_⟩,h2.mono (by omega) (Nat.le_refl _),fun i hi b e=> ?_⟩
    ·have:=h3 b e;omega
    ·have:=h3 b e
     have:=h2.bd i hi
     omega
   exact ⟨_,rfl,h4,HBr.out⟩
theorem toIntSSS_in (v:Value) (xs:List (List (List Int))) (w:World) (hR:RiR 0 w.heap.size w v xs) (hlen:xs.length≤1048576) (hx:∀i,i < xs.length→(xs.getD i []).length≤1048576) (hy:∀i,i < xs.length→∀j,j < (xs.getD i []).length→((xs.getD i []).getD j []).length≤1048576):
  Calls Tryz.prog 154 #[v] w fun e w'=> ∃v',e=.returned v'∧InR w.heap.size w'.heap.size w' v' xs∧Below w.heap.size w w':=by
 obtain ⟨o,cap,ev⟩:∃o c,v=.slice o xs.length c:=by
  obtain ⟨hs,h0,⟨o,c,e,_⟩,_⟩:=hR
  exact ⟨o,c,by rw [e,h0]⟩
 subst ev
 obtain ⟨i0,hi,hz0,hz1,hz2⟩:=info_parts infoIntSS
 have HR0:=hide hR
 clear hR
 go_enter Tryz.func154,Tryz.ntmps154
 go_wp2_with (at_make;refine wpList_make_full _ rfl _ _ 26 rfl w.heap.size 228 i0 (.slice none 0 0) 1 Tryz.underlying26 hi hz0 hz1 _ _ _ _ xs.length rfl rfl rfl rfl ?b2 ?b3 ?b4 ?_)
 case b2=> rw [hz2];omega
 case b3=> unfold maxLen;omega
 case b4=> simp
 intro w3 hown hgrow
 have HB3:=hide (show Below w.heap.size w w3 from (Below.refl _ _).grown hgrow (Nat.le_refl _) (fun k h=> by cases h))
 have HO3:Hid (w3.ownsRow w.heap.size 228 1 (.slice (some ⟨w.heap.size,0,none⟩) xs.length xs.length) xs.length ((([]:List Hd)++List.replicate (xs.length - 0) layH.d).flatMap layH.cs)):=by
  rw [List.nil_append,Nat.sub_zero,←made_flat layH (.slice none 0 0) rfl,show layH.k=1 from rfl,Nat.mul_one];exact hown
 have hs3:w.heap.size+1≤w3.heap.size:=(hown.lt w.heap.size rfl).2
 clear hown hgrow
 go_wp2
 go_loopw [4] (fun iv wr=> ∃(k:Nat) (hs:List Hd) (L H:Nat→Nat),k≤xs.length∧iv=.int .i64 (k:Int)∧Hid (wr.ownsRow w.heap.size 228 1 (.slice (some ⟨w.heap.size,0,none⟩) xs.length xs.length) xs.length ((hs++List.replicate (xs.length - k) layH.d).flatMap layH.cs))∧Hid (Rw InT [] (xs.take k) (w.heap.size+1) wr.heap.size wr hs L H)∧Hid (Below w.heap.size w wr)∧w.heap.size+1≤wr.heap.size)
  (fun iv _=> xs.length - (intOf iv).toNat)
 case atStart=> exact ⟨0,[],fun _=> 0,fun _=> 0,Nat.zero_le _,rfl,HO3.out,by rw [List.take_zero];exact Rw.nil _ _ _ _ _ _ _,HB3.out,hs3⟩
 case round=>
  obtain ⟨k,hs,L,H,hk8,rfl,HO,HR,HBr,hsr⟩:=hrel
  clear HO3 HB3 hs3
  have hhl:hs.length=k:=by have h1:=HR.out.len;rw [List.length_take] at h1;omega
  by_cases hlt:k < xs.length
  ·have z1:(k:Int) < (xs.length:Int):=by omega
   have HS:=hide (show xs.take (k+1)=xs.take k++[xs.getD k []] by rw [List.take_succ_eq_append_getElem hlt];simp [hlt])
   obtain ⟨b,off,o',c',rfl,hbl0,hc0,hr0⟩:=(RiR.mon.go (RiR.stp.go HR0.out (lo:=w.heap.size) (hi:=w.heap.size+wr.heap.size) ⟨HBr.out.os,HBr.out.tape,HBr.out.output,HBr.out.size,fun k hk _=> HBr.out.block k hk⟩ (.inr (Nat.le_refl _))) (Nat.le_refl _) HBr.out.size).at (Nat.le_refl _) k hlt
   have hc:=hc0
   have HL:=hide (toIntSS_in (.slice o' (xs.getD k []).length c') (xs.getD k []) wr (RiT.of hr0) (hx k hlt) (hy k hlt))
   have HXL:=hide hlen
   clear hc0 hr0
   have HHL:=hide hhl
   have hxs:=HXL.out
   clear hxs
   obtain ⟨row,hrow⟩:∃r,xs.getD k []=r:=⟨_,rfl⟩
   rw [hrow] at HL hc HS
   clear hrow
   obtain ⟨q,hq⟩:∃q,row.length=q:=⟨_,rfl⟩
   rw [hq] at HL hc
   have HQ:=hide hq
   clear hq
   go_wp2_with fail
   refine HL.out.mono ?_
   rintro e v1 ⟨v4,rfl,in4,hb4⟩
   obtain ⟨o4,c4,e4,_⟩:=RiT.rd (InT.ri in4)
   rw [HQ.out] at e4
   subst e4
   have HIN:=hide in4
   clear in4
   have HO4:=hide (own_kept HO.out hb4)
   have hln:((hs++List.replicate (xs.length - k) layH.d).flatMap layH.cs).length=xs.length:=by rw [flat_length,List.length_append,List.length_replicate,HHL.out,show layH.k=1 from rfl];omega
   have hcl:=HO4.out.cellAt k (by omega)
   have hfr:=HO4.out.frozenAt k
   obtain ⟨u,hu⟩:∃u,v1.cell? ⟨w.heap.size,k,none⟩=some u:=⟨_,hcl.trans (List.getElem?_eq_getElem (by omega))⟩
   have HO5:=hide (fillU_step (o:=o4) (m:=q) (c:=c4) hlt HHL.out HO4.out)
   have HR4:=(HR.out.kept InT.stp hb4).snoc (l2:=wr.heap.size) (h2:=v1.heap.size) (Nat.le_refl _) (by omega) hb4.size (x:=row) (o:=o4) (m:=q) (c:=c4) HIN.out
   rw [←HS.out] at HR4
   have HR5:=HR4.step InT.stp (stp_set v1 w.heap.size k (.slice o4 q c4)) (fun i hi=> .inl (HR4.bd i hi).1)
   have HR6:Hid (Rw InT [] (xs.take (k+1)) (w.heap.size+1) (v1.setCell ⟨w.heap.size,k,none⟩ (.slice o4 q c4)).heap.size (v1.setCell ⟨w.heap.size,k,none⟩ (.slice o4 q c4)) _ _ _):=HR5.mono (Nat.le_refl _) (by simp)
   have HB5:=hide ((HBr.out.trans (hb4.mono HBr.out.size)).setCell (p:=⟨w.heap.size,k,none⟩) (Nat.le_refl _) (.slice o4 q c4))
   have hs5:w.heap.size+1≤v1.heap.size:=by have:=hb4.size;omega
   clear hb4 hcl HR4 HR5 hln HL hhl hc
   go_wp2
   go_roundw
   case rel=> exact ⟨k+1,_,_,_,by omega,by go_num,HO5.out,HR6.out,HB5.out,by simpa using hs5⟩
   case measure=> simp [intOf];omega
  ·have e:k=xs.length:=by omega
   subst e
   go_wp2
   go_ret
   have h1:=HO.out
   rw [Nat.sub_self,List.replicate_zero,List.append_nil] at h1
   have h2:=HR.out
   rw [List.take_length] at h2
   have h3:∀b,(Value.slice (some ⟨w.heap.size,0,none⟩) xs.length xs.length).ownBlock=some b→b=w.heap.size:=fun b e=> (Option.some.inj e).symm
   have h4:InR w.heap.size wr.heap.size wr (.slice (some ⟨w.heap.size,0,none⟩) xs.length xs.length) xs:=by
    refine ⟨hs,L,H,⟨by rw [hhl];exact h1,fun b e=> ?_⟩,h2.mono (by omega) (Nat.le_refl _),fun i hi b e=> ?_⟩
    ·have:=h3 b e;omega
    ·have:=h3 b e
     have:=h2.bd i hi
     omega
   exact ⟨_,rfl,h4,HBr.out⟩
theorem leftTo_sum (ll:List (List Int)) (n:Int):∀k,leftTo ll n k=n - (ll.length:Int) - (sumN (lenT ll) k:Int)
 |0=> by simp [leftTo,sumN]
 |k+1=> by
  rw [leftTo,leftTo_sum ll n k,show sumN (lenT ll) (k+1)=sumN (lenT ll) k+(ll.getD k []).length from rfl]
  omega
theorem szIntSSS_any (v:Value) (lll:List (List (List Int))) (n:Int) (w:World) (hR:RiR 0 w.heap.size w v lll) (hl:lll.length≤maxLen) (hx:∀i,i < lll.length→(lll.getD i []).length≤maxLen) (hy:∀i,i < lll.length→∀j,j < (lll.getD i []).length→((lll.getD i []).getD j []).length≤maxLen) (h0:0≤n) (h1:n≤1048576):
  Calls Tryz.prog 142 #[v,.int .i64 n] w fun e w'=> (e=.returned (.int .i64 (-1))∨∃z:Int,e=.returned (.int .i64 z)∧0≤z∧z≤n∧(lll.length:Int)+(szR lll:Int)≤n∧∀i,i < lll.length→((lll.getD i []).length:Int)≤n)∧Below w.heap.size w w':=by
 obtain ⟨o,cap,ev⟩:∃o c,v=.slice o lll.length c:=by
  obtain ⟨hs,h0,⟨o,c,e,_⟩,_⟩:=hR
  exact ⟨o,c,by rw [e,h0]⟩
 subst ev
 have hl':=hl
 unfold maxLen at hl'
 by_cases h:n - lll.length < 0
 ·go_enter Tryz.func142,Tryz.ntmps142
  go_wp2
  go_ret
  exact ⟨.inl rfl,Below.refl _ _⟩
 ·go_enter Tryz.func142,Tryz.ntmps142
  go_wp2
  go_loopw [1,5] (fun n' i wr=> ∃(k:Nat) (z:Int),k≤lll.length∧i=.int .i64 (k:Int)∧n'=.int .i64 z∧0≤z∧z≤n - (lll.length:Int) - (sumN (lenR lll) k:Int)∧Hid (∀i,i < k→((lll.getD i []).length:Int)≤n)∧Hid (Below w.heap.size w wr))
   (fun _ i _=> lll.length - (intOf i).toNat)
  case atStart=> exact ⟨0,n - lll.length,Nat.zero_le _,rfl,rfl,by omega,by simp [sumN],fun i hi=> absurd hi (Nat.not_lt_zero _),Below.refl _ _⟩
  case round=>
   obtain ⟨k,z,hk,rfl,rfl,hz0,hz1,HLN,HBr⟩:=hrel
   by_cases hlt:k < lll.length
   ·obtain ⟨b,off,o',c',rfl,hb,hc,hr⟩:=(RiR.mon.go (RiR.stp.go hR (Stp.of (lo:=0) (hi:=0) HBr.out) (.inl (Nat.zero_le _))) (Nat.le_refl _) HBr.out.size).at (Nat.le_refl _) k hlt
    have hsn:(0:Int)≤(sumN (lenR lll) k:Int):=by omega
    have HZ:=hide (szIntSS_any o' (lll.getD k []) c' z wr hr (hx k hlt) (hy k hlt) hz0 (by omega))
    have HSU:=hide (show sumN (lenR lll) (k+1)=sumN (lenR lll) k+szT (lll.getD k []) from rfl)
    have HEL:=hide (show leftLL (lll.getD k []) z=z - ((lll.getD k []).length:Int) - (szT (lll.getD k []):Int) from leftTo_sum _ _ _)
    have hz1':=hz1
    obtain ⟨ll,hll⟩:∃ll,lll.getD k []=ll:=⟨_,rfl⟩
    rw [hll] at hc HZ HSU HEL
    have HLL:=hide hll
    have HR:=hide hR
    clear hr hll hR hx hy
    obtain ⟨m,hm⟩:∃m,ll.length=m:=⟨_,rfl⟩
    rw [hm] at hc HZ HEL
    have HM:=hide hm
    clear hm
    generalize sumN (lenR lll) k=sk at *
    go_wp2_with fail
    refine HZ.out.mono ?_
    rintro e w2 ⟨rfl|⟨hfit,rfl⟩,hb2⟩
    ·have HB2:=hide (HBr.out.trans (hb2.mono HBr.out.size))
     clear hb2
     go_wp2
     go_ret
     exact ⟨.inl rfl,HB2.out⟩
    ·have HB2:=hide (HBr.out.trans (hb2.mono HBr.out.size))
     have hpos:=hfit ll.length (Nat.le_refl _)
     have hpos':0≤leftLL ll z:=hpos
     have hE:=HEL.out
     have hmz:(m:Int)≤n:=by omega
     have HE2:=hide hE
     clear hfit hb2 hpos hE HEL
     generalize leftLL ll z=y at *
     go_wp2
     go_roundw
     case rel=> exact ⟨k+1,y,by omega,by go_num,rfl,hpos',by (have:=HE2.out;rw [HSU.out];push_cast;omega),fun i hi=> (by rcases Nat.lt_succ_iff_lt_or_eq.1 hi with h'|h';exact HLN.out i h';rw [h',HLL.out,HM.out];exact hmz),HB2.out⟩
     case measure=> simp [intOf];omega
   ·have e:k=lll.length:=by omega
    subst e
    have hsz:sumN (lenR lll) lll.length=szR lll:=rfl
    rw [hsz] at hz1
    clear hsz
    go_wp2
    go_ret
    exact ⟨.inr ⟨z,rfl,hz0,by omega,by omega,HLN.out⟩,HBr.out⟩
theorem row_le (ll:List (List Int)) (j:Nat) (h:j < ll.length):(ll.getD j []).length≤szT ll:=by
 have:=sumN_at (lenT ll) h
 unfold szT;unfold lenT at *;omega
theorem tab_le (lll:List (List (List Int))) (i:Nat) (h:i < lll.length):szT (lll.getD i [])≤szR lll:=by
 have:=sumN_at (lenR lll) h
 unfold szR;unfold lenR at *;omega
theorem fit_of {key:Int} {l:List Bk} {lll:List (List (List Int))} {n:Int} (hn:n≤1048576) (hl:(l.length:Int)≤1048576) (h1:(lll.length:Int)+(szR lll:Int)≤n) (h2:∀i,i < lll.length→((lll.getD i []).length:Int)≤n):fitPm ⟨key,l,lll⟩:=
 ⟨by show l.length≤_;omega,by show lll.length≤_;omega,by show szR lll≤_;omega,fun i hi=> by have:=h2 i hi;show (lll.getD i []).length≤_;omega,fun i hi j hj=> by
  have h3:=row_le (lll.getD i []) j hj
  have h4:=tab_le lll i hi
  show ((lll.getD i []).getD j []).length≤_
  omega⟩
def lenPm (m:Pm):Prop:=m.l.length≤maxLen∧m.ring.length≤maxLen∧(∀i,i < m.ring.length→(m.ring.getD i []).length≤maxLen)∧∀i,i < m.ring.length→∀j,j < (m.ring.getD i []).length→((m.ring.getD i []).getD j []).length≤maxLen
theorem szPool_n (v:Value) (m:Pm) (n:Int) (w:World) (hR:RdPm w.heap.size w v m) (hl:lenPm m) (hn0:0≤n) (hn1:n≤1048576):
  Calls Tryz.prog 84 #[v,.int .i64 n] w fun e w'=> (∃z:Int,e=.returned (.int .i64 z)∧((z < 0∧ -1≤z)∨(0≤z∧z≤n∧fitPm m)))∧Below w.heap.size w w':=by
 obtain ⟨vb,vr,rfl,⟨o,c,rfl,b1⟩,r1⟩:=hR
 obtain ⟨oR,cR,rfl⟩:=RiR.len r1
 obtain ⟨l1,l2,l3,l4⟩:=hl
 have hs:=fun W=> szBackS_any o m.l.length c n W l1 hn0 hn1
 have HRG:=hide (fun W (hb:Below w.heap.size w W) (z:Int) h0 h1=> szIntSSS_any (.slice oR m.ring.length cR) m.ring z W (RiR.mon.go (RiR.stp.go r1 (Stp.of (lo:=0) (hi:=0) hb) (.inl (Nat.zero_le _))) (Nat.le_refl _) hb.size) l2 l3 l4 h0 h1)
 clear b1 r1 l3 l4
 obtain ⟨W0,hW0⟩:∃W,(w.alloc (.cells #[.int .i64 m.key,.slice o m.l.length c,.slice oR m.ring.length cR] 28))=W:=⟨_,rfl⟩
 have hb_W0:Below w.heap.size w W0:=by rw [←hW0];exact ((Below.refl _ _).alloc (Nat.le_refl _) _)
 have HB:=hide hb_W0
 clear hb_W0
 have zz:w.heap.size < W0.heap.size:=by rw [←hW0];simp
 have z0:W0.cell? ⟨w.heap.size,0,none⟩=some (.int .i64 m.key):=by rw [←hW0];simp [go_sem]
 have z1:W0.cell? ⟨w.heap.size,1,none⟩=some (.slice o m.l.length c):=by rw [←hW0];simp [go_sem]
 have z2:W0.cell? ⟨w.heap.size,2,none⟩=some (.slice oR m.ring.length cR):=by rw [←hW0];simp [go_sem]
 by_cases h:n - (m.l.length:Int) < 0
 ·rw [if_pos h] at hs
  go_enter Tryz.func84,Tryz.ntmps84
  go_wp2_with fail
  refine (hs _).mono ?_
  rintro e w1 ⟨rfl,rfl⟩
  go_wp2
  go_ret
  exact ⟨⟨_,rfl,.inl ⟨by decide,by decide⟩⟩,HB.out⟩
 ·rw [if_neg h] at hs
  have hz0:(0:Int)≤n - (m.l.length:Int):=by omega
  have HRG2:=hide (HRG.out W0 HB.out (n - (m.l.length:Int)) hz0 (by omega))
  go_enter Tryz.func84,Tryz.ntmps84
  go_wp2_with fail
  refine (hs _).mono ?_
  rintro e w1 ⟨rfl,rfl⟩
  go_wp2_with fail
  refine HRG2.out.mono ?_
  rintro e w2 ⟨rfl|⟨z,rfl,hz1,hz2,hz3,hz4⟩,hb2⟩
  ·have HB2:=hide (HB.out.trans (hb2.mono HB.out.size))
   clear hb2
   go_wp2
   go_ret
   exact ⟨⟨_,rfl,.inl ⟨by decide,by decide⟩⟩,HB2.out⟩
  ·have HB2:=hide (HB.out.trans (hb2.mono HB.out.size))
   have HF:Hid (fitPm m):=fit_of (n:=n - (m.l.length:Int)) (by omega) (by omega) hz3 hz4
   clear hb2 hz3 hz4
   go_wp2
   go_ret
   exact ⟨⟨_,rfl,.inr ⟨hz1,by omega,HF.out⟩⟩,HB2.out⟩
theorem toPool_sh (v:Value) (m:Pm) (w:World) (hR:RdPm w.heap.size w v m) (hf:fitPm m):
  Calls Tryz.prog 94 #[v] w fun e w'=> ∃v',e=.returned v'∧InPm w.heap.size w'.heap.size w' v' m∧Below w.heap.size w w':=by
 obtain ⟨vb,vr,rfl,⟨o,c,rfl,b1⟩,r1⟩:=hR
 obtain ⟨oR,cR,rfl⟩:=RiR.len r1
 obtain ⟨hf1,hf2,hf3,hf4,hf5⟩:=hf
 have HBK:=hide (fun W (hb:Below w.heap.size w W)=> toBackS_any o c m.l W ((b1.rd.kept hb (Nat.le_refl _)).le hb.size) hf1)
 have HRG:=hide (fun W (hb:Below w.heap.size w W)=> toIntSSS_in (.slice oR m.ring.length cR) m.ring W (RiR.mon.go (RiR.stp.go r1 (Stp.of (lo:=0) (hi:=0) hb) (.inl (Nat.zero_le _))) (Nat.le_refl _) hb.size) hf2 hf4 hf5)
 clear b1 r1 hf4 hf5
 obtain ⟨W0,hW0⟩:∃W,(((w.alloc (.cells #[.int .i64 m.key,.slice o m.l.length c,.slice oR m.ring.length cR] 28)).alloc (.cells #[.int .i64 0,.slice none 0 0,.slice none 0 0] 46)).alloc (.cells #[.int .i64 0,.slice none 0 0,.slice none 0 0] 46))=W:=⟨_,rfl⟩
 have hb_W0:Below w.heap.size w W0:=by rw [←hW0];exact ((((Below.refl _ _).alloc (Nat.le_refl _) _).alloc (by simp <;> omega) _).alloc (by simp <;> omega) _)
 have HB:=hide hb_W0
 clear hb_W0
 have zz:w.heap.size < W0.heap.size:=by rw [←hW0];simp <;> omega
 have z0:W0.cell? ⟨w.heap.size,0,none⟩=some (.int .i64 m.key):=by rw [←hW0];simp [go_sem]
 have z1:W0.cell? ⟨w.heap.size,1,none⟩=some (.slice o m.l.length c):=by rw [←hW0];simp [go_sem]
 have z2:W0.cell? ⟨w.heap.size,2,none⟩=some (.slice oR m.ring.length cR):=by rw [←hW0];simp [go_sem]
 have zr:w.heap.size+1 < W0.heap.size:=by rw [←hW0];simp <;> omega
 have r0:W0.cell? ⟨w.heap.size+1,0,none⟩=some (.int .i64 0):=by rw [←hW0];simp [go_sem]
 have r1:W0.cell? ⟨w.heap.size+1,1,none⟩=some (.slice none 0 0):=by rw [←hW0];simp [go_sem]
 have r2:W0.cell? ⟨w.heap.size+1,2,none⟩=some (.slice none 0 0):=by rw [←hW0];simp [go_sem]
 have fr0:W0.frozen? ⟨w.heap.size+1,0,none⟩=false:=by rw [←hW0];simp [go_sem]
 have fr1:W0.frozen? ⟨w.heap.size+1,1,none⟩=false:=by rw [←hW0];simp [go_sem]
 have fr2:W0.frozen? ⟨w.heap.size+1,2,none⟩=false:=by rw [←hW0];simp [go_sem]
 have zx:w.heap.size+1+1 < W0.heap.size:=by rw [←hW0];simp
 have x0:W0.cell? ⟨w.heap.size+1+1,0,none⟩=some (.int .i64 0):=by rw [←hW0];simp [go_sem]
 have x1:W0.cell? ⟨w.heap.size+1+1,1,none⟩=some (.slice none 0 0):=by rw [←hW0];simp [go_sem]
 have x2:W0.cell? ⟨w.heap.size+1+1,2,none⟩=some (.slice none 0 0):=by rw [←hW0];simp [go_sem]
 have fx0:W0.frozen? ⟨w.heap.size+1+1,0,none⟩=false:=by rw [←hW0];simp [go_sem]
 have fx1:W0.frozen? ⟨w.heap.size+1+1,1,none⟩=false:=by rw [←hW0];simp [go_sem]
 have fx2:W0.frozen? ⟨w.heap.size+1+1,2,none⟩=false:=by rw [←hW0];simp [go_sem]
 have h0x:W0.heap[w.heap.size+1+1]? =some (.cells #[.int .i64 0,.slice none 0 0,.slice none 0 0] 46 (0,0)):=by rw [←hW0];exact box_new3 w _ _ _ _
 have h0r:W0.heap[w.heap.size+1]? =some (.cells #[.int .i64 0,.slice none 0 0,.slice none 0 0] 46 (0,0)):=by rw [←hW0];exact box_mid3 w _ _ _ _
 have hzx:=zx
 have hw0:=HB.out.size
 obtain ⟨W1,hW1⟩:∃W,W0.setCell ⟨w.heap.size+1+1,0,none⟩ (.int .i64 m.key)=W:=⟨_,rfl⟩
 have h1x:=box_put h0x 0 (.int .i64 m.key)
 rw [hW1] at h1x
 have h1r:W1.heap[w.heap.size+1]? =some (.cells #[.int .i64 0,.slice none 0 0,.slice none 0 0] 46 (0,0)):=by rw [←hW1];exact (far_block (by omega) _ _).trans h0r
 have hs1:W1.heap.size=W0.heap.size:=by rw [←hW1];simp
 have hB1:Below w.heap.size w W1:=by rw [←hW1];exact HB.out.setCell (p:=⟨w.heap.size+1+1,0,none⟩) (show w.heap.size≤w.heap.size+1+1 by omega) _
 have a0:W1.cell? ⟨w.heap.size,0,none⟩=some (.int .i64 m.key):=by rw [←hW1];exact (cell_far (by omega)).trans z0
 have a1:W1.cell? ⟨w.heap.size,1,none⟩=some (.slice o m.l.length c):=by rw [←hW1];exact (cell_far (by omega)).trans z1
 have a2:W1.cell? ⟨w.heap.size,2,none⟩=some (.slice oR m.ring.length cR):=by rw [←hW1];exact (cell_far (by omega)).trans z2
 have HB1:=hide hB1
 have HS1:=hide hs1
 have H1X:=hide h1x
 have H1R:=hide h1r
 clear hB1 hs1 h1x h1r h0x h0r z1 z2 r0 r1 r2 fr0 fr1 fr2 HB
 go_enter Tryz.func94,Tryz.ntmps94
 go_wp2_with fail
 refine (HBK.out W1 HB1.out).mono ?_
 rintro e v1 ⟨g1,rfl,ow1,hb1⟩
 have hsv:=hb1.size
 have hx1:=(hb1.block _ (show w.heap.size+1+1 < W1.heap.size by have:=HS1.out;omega)).trans H1X.out
 have hr1:=(hb1.block _ (show w.heap.size+1 < W1.heap.size by have:=HS1.out;omega)).trans H1R.out
 have b0:=bC hb1 a0 (by have:=HS1.out;omega)
 have b1:=bC hb1 a1 (by have:=HS1.out;omega)
 have b2:=bC hb1 a2 (by have:=HS1.out;omega)
 have p1:v1.cell? ⟨w.heap.size+1+1,1,none⟩=some (.slice none 0 0):=bx_cell hx1 1 _ rfl
 have q1:=bx_frozen hx1 1
 obtain ⟨og,hog⟩:∃o:Option Addr,some ⟨g1,0,none⟩=o:=⟨_,rfl⟩
 rw [hog] at ow1 ⊢
 clear hog
 obtain ⟨W2,hW2⟩:∃W,v1.setCell ⟨w.heap.size+1+1,1,none⟩ (.slice og m.l.length m.l.length)=W:=⟨_,rfl⟩
 have h2x:=box_put hx1 1 (.slice og m.l.length m.l.length)
 rw [hW2] at h2x
 have h2r:W2.heap[w.heap.size+1]? =some (.cells #[.int .i64 0,.slice none 0 0,.slice none 0 0] 46 (0,0)):=by rw [←hW2];exact (far_block (by omega) _ _).trans hr1
 have hs2:W2.heap.size=v1.heap.size:=by rw [←hW2];simp
 have hB2:Below w.heap.size w W2:=by rw [←hW2];exact (HB1.out.trans (hb1.mono HB1.out.size)).setCell (p:=⟨w.heap.size+1+1,1,none⟩) (show w.heap.size≤w.heap.size+1+1 by omega) _
 have HO2:Hid (InL layK 226 W0.heap.size W2.heap.size W2 (.slice og m.l.length m.l.length) m.l):=by rw [←hW2];exact InRow.of (own_low (own_mono ow1 (by have:=HS1.out;omega)) hzx 1 _)
 have d0:W2.cell? ⟨w.heap.size,0,none⟩=some (.int .i64 m.key):=by rw [←hW2];exact (cell_far (by omega)).trans b0
 have d1:W2.cell? ⟨w.heap.size,1,none⟩=some (.slice o m.l.length c):=by rw [←hW2];exact (cell_far (by omega)).trans b1
 have d2:W2.cell? ⟨w.heap.size,2,none⟩=some (.slice oR m.ring.length cR):=by rw [←hW2];exact (cell_far (by omega)).trans b2
 have HB2:=hide hB2
 have HS2:=hide hs2
 have H2X:=hide h2x
 have H2R:=hide h2r
 clear hB2 hs2 h2x h2r hx1 hr1 ow1 hb1
 go_wp2_with fail
 refine (HRG.out W2 HB2.out).mono ?_
 rintro e v3 ⟨vr3,rfl,in3,hb3⟩
 obtain ⟨o3,c3,e3⟩:=RiR.len (InR.ri in3)
 subst e3
 have hsv3:=hb3.size
 have hx3:=(hb3.block _ (show w.heap.size+1+1 < W2.heap.size by have:=HS2.out;have:=HS1.out;omega)).trans H2X.out
 have hr3:=(hb3.block _ (show w.heap.size+1 < W2.heap.size by have:=HS2.out;have:=HS1.out;omega)).trans H2R.out
 have p2:v3.cell? ⟨w.heap.size+1+1,2,none⟩=some (.slice none 0 0):=bx_cell hx3 2 _ rfl
 have q2:=bx_frozen hx3 2
 obtain ⟨W4,hW4⟩:∃W,v3.setCell ⟨w.heap.size+1+1,2,none⟩ (.slice o3 m.ring.length c3)=W:=⟨_,rfl⟩
 have h4x:=box_put hx3 2 (.slice o3 m.ring.length c3)
 rw [hW4] at h4x
 have h4r:W4.heap[w.heap.size+1]? =some (.cells #[.int .i64 0,.slice none 0 0,.slice none 0 0] 46 (0,0)):=by rw [←hW4];exact (far_block (by omega) _ _).trans hr3
 have hB4:Below w.heap.size w W4:=by rw [←hW4];exact (HB2.out.trans (hb3.mono HB2.out.size)).setCell (p:=⟨w.heap.size+1+1,2,none⟩) (show w.heap.size≤w.heap.size+1+1 by omega) _
 have hs4:W4.heap.size=v3.heap.size:=by rw [←hW4];simp
 have HIN:Hid (InPm W0.heap.size W4.heap.size W4 (plv m.key (.slice og m.l.length m.l.length) (.slice o3 m.ring.length c3)) m):=by
  rw [hs4,←hW4]
  exact ⟨_,_,W2.heap.size,rfl,by have:=HS2.out;have:=HS1.out;omega,hsv3,InRow.step (InRow.step HO2.out (Stp.of (lo:=0) (hi:=0) hb3) (.inl (Nat.zero_le _))) (stp_set v3 (w.heap.size+1+1) 2 _) (.inl (by omega)),InR.stp.go in3 (stp_set v3 (w.heap.size+1+1) 2 _) (.inl (by have:=HS2.out;have:=HS1.out;omega))⟩
 obtain ⟨e0,e1,e2,g0,g1',g2⟩:=bx_allP h4x
 obtain ⟨t0,t1,t2,u0,u1,u2⟩:=bx_allP h4r
 have HB4:=hide hB4
 clear hB4 h4x h4r hx3 hr3 in3 hb3 hs4
 go_wp2
 refine bodyPost_ret (v:=plv m.key (.slice og m.l.length m.l.length) (.slice o3 m.ring.length c3)) (by simp [results,Tryz.results94,go_sem,t0,t1,t2]) rfl ⟨_,rfl, ?_,setP_belowT HB4.out (Nat.le_succ _) _ _ _⟩
 rw [setP_sizeT]
 exact in_monoT (HIN.out.step (stp_setT W4 (w.heap.size+1) _ _ _) (.inl (by omega))) (by omega)
theorem cellsLawsPool:Tryz.prog.cellsOf 28=3:=by kernel_rfl
theorem cellsIntSS:Tryz.prog.cellsOf 228=1:=by kernel_rfl
theorem open_rows3_cells {H:Type} {enc:TypeId × Value→H} {W:World} {fuel:Nat} {cs:List Value} {x:DataW H × List MemPlace} (h:DataW.trod enc Tryz.prog W 0 (fun _=> true) true fuel 26 cs=some x):
  ∃(o:Option Addr) (cap:Nat) (ll:List (List (List Int))),cs=[.slice o ll.length cap]∧ll.length≤maxLen∧RiR 0 W.heap.size W (.slice o ll.length cap) ll∧(∀i,i < ll.length→(ll.getD i []).length≤maxLen)∧∀i,i < ll.length→∀j,j < (ll.getD i []).length→((ll.getD i []).getD j []).length≤maxLen:=by
 rcases Go.Deep.open_slice1 Tryz.underlying26 cellsIntSS h with ⟨hcs,_⟩|⟨a,len,cap,m,n,V,D,Pl,hcs,_,hl,hm,hmm,_,hx⟩
 ·exact ⟨none,0,[],hcs,Nat.zero_le _,⟨[],rfl,⟨none,0,rfl,.inl rfl⟩,fun i hi=> absurd hi (Nat.not_lt_zero _)⟩,fun i hi=> absurd hi (Nat.not_lt_zero _),fun i hi=> absurd hi (Nat.not_lt_zero _)⟩
 ·have hlm:len≤m:=by rw [hmm];split <;> omega
  have ex:∀i,i < len→∃y:Hd × List (List Int),V i=.slice y.1.1 y.1.2.1 y.1.2.2∧y.1.2.1=y.2.length∧y.2.length≤maxLen∧RdLL W.heap.size W y.1.1 y.2∧∀j,j < y.2.length→(y.2.getD j []).length≤maxLen:=fun i hi=> by
   obtain ⟨o',c',l',e,hl',hr,hj⟩:=open_rows_cells (hx i (by omega)).2
   simp at e
   exact ⟨((o',l'.length,c'),l'),e,rfl,hl',hr,hj⟩
  have hne:Inhabited (Hd × List (List Int)):=⟨((none,0,0),[])⟩
  obtain ⟨f,hf⟩:=Go.Deep.choose_lt ex
  have gd:∀i,i < len→((List.range len).map (fun i=> (f i).2)).getD i []=(f i).2:=fun i hi=> by simp [hi]
  have gh:∀i,i < len→((List.range len).map (fun i=> (f i).1)).getD i (none,0,0)=(f i).1:=fun i hi=> by simp [hi]
  refine ⟨some a,cap,(List.range len).map (fun i=> (f i).2),by simpa using hcs,by simp;omega,⟨(List.range len).map (fun i=> (f i).1),by simp,⟨some a,cap,by simp, ?_⟩,fun i hi=> ?_⟩,fun i hi=> ?_,fun i hi=> ?_⟩
  ·by_cases h0:len=0
   ·left;simp [h0]
   ·right
    obtain ⟨b,off,spot⟩:=a
    have hc:=(hx 0 (by omega)).1
    have hspot:spot=none:=by simpa [Addr.add] using World.cell?_spot hc
    subst hspot
    have e2:∀j,(⟨b,off,none⟩:Addr).add j=⟨b,off+j,none⟩:=fun j=> by by_cases h:j=0 <;> simp [Addr.add,h]
    refine ⟨b,off,rfl,Nat.zero_le _, ?_,fun i hi j hj=> ?_⟩
    ·rw [e2] at hc
     rcases Nat.lt_or_ge b W.heap.size with h|h
     ·exact h
     ·simp [World.cell?,Array.getElem?_eq_none h] at hc
    ·have hi':i < len:=by simpa using hi
     have hj':j=0:=by have:j < 1:=hj;omega
     subst hj'
     have h1:=(hx i (by omega)).1
     rw [e2] at h1
     rw [show layH.d=(none,0,0) from rfl,gh i hi',show layH.k=1 from rfl,Nat.mul_one,Nat.add_zero,h1,(hf i hi').1]
     rfl
  ·have hi':i < len:=by simpa using hi
   have hv':hv ((List.range len).map (fun i=> (f i).1)) i=.slice (f i).1.1 (f i).2.length (f i).1.2.2:=by unfold hv;rw [gh i hi',(hf i hi').2.1]
   rw [gd i hi',hv']
   exact RiT.of (hf i hi').2.2.2.1
  ·have hi':i < len:=by simpa using hi
   rw [gd i hi']
   exact (hf i hi').2.2.1
  ·have hi':i < len:=by simpa using hi
   rw [gd i hi']
   exact (hf i hi').2.2.2.2
theorem szJournal_n (k s:Int) (o:Option Addr) (len c:Nat) (n:Int) (w:World) (hl:len≤maxLen) (h0:0≤n) (h1:n≤1048576):
  Calls Tryz.prog 83 #[jrn k (.slice o len c) s,.int .i64 n] w fun e w'=> e=.returned (.int .i64 (if n - len < 0 then -1 else n - len))∧Below w.heap.size w w':=by
 have hB:Below w.heap.size w w:=Below.refl _ _
 have hs:=fun W=> szPoolCmdS_any o len c n W hl h0 h1
 by_cases h:n - len < 0
 ·rw [if_pos h] at hs
  rw [if_pos h]
  go_enter Tryz.func83,Tryz.ntmps83
  go_wp2_with (go_at_call 140;refine (hs _).mono ?_;rintro e w1 ⟨rfl,rfl⟩)
  go_ret
  exact ⟨rfl,by (repeat (first|with_reducible (first|exact hB|exact Below.refl _ _|refine Below.drew ?_|refine below_drewN ?_ _|refine Below.alloc ?_ ?_ _|refine Below.setCell ?_ ?_ _)|(focus (simp;first|done|omega))|omega))⟩
 ·rw [if_neg h] at hs
  rw [if_neg h]
  have h':0≤n - (len:Int):=by omega
  go_enter Tryz.func83,Tryz.ntmps83
  go_wp2_with (go_at_call 140;refine (hs _).mono ?_;rintro e w1 ⟨rfl,rfl⟩)
  go_ret
  exact ⟨rfl,by (repeat (first|with_reducible (first|exact hB|exact Below.refl _ _|refine Below.drew ?_|refine below_drewN ?_ _|refine Below.alloc ?_ ?_ _|refine Below.setCell ?_ ?_ _)|(focus (simp;first|done|omega))|omega))⟩
def lenBm (m:Bm):Prop:=m.j.l.length≤maxLen∧lenPm m.p∧m.t.length≤maxLen
theorem szBal_sh (v:Value) (m:Bm) (w:World) (hR:RdBm w.heap.size w v m) (hl:lenBm m):
  Calls Tryz.prog 37 #[v,.int .i64 1048576] w fun e w'=> (∃z:Int,e=.returned (.int .i64 z)∧((z < 0∧ -1≤z)∨(0≤z∧z≤1048576∧fitB0 m)))∧Below w.heap.size w w':=by
 obtain ⟨o,c,ob,cb,oR,cR,ot,ct,rfl⟩:=hR.opn
 obtain ⟨vl,vb,vr,vt,e,a1,a2,a3⟩:=hR
 simp only [Value.agg.injEq,Array.mk.injEq,List.cons.injEq,and_true,true_and] at e
 obtain ⟨e1,e2,e3,e4⟩:=e
 subst e1 e2 e3 e4
 obtain ⟨l1,l2,l3⟩:=hl
 have HJ:=hide (fun W=> szJournal_n m.j.key m.j.safe o m.j.l.length c 1048576 W l1 (by decide) (by decide))
 have HP:=hide (fun W (hb:Below w.heap.size w W) n h0 h1=> szPool_n (plv m.p.key (.slice ob m.p.l.length cb) (.slice oR m.p.ring.length cR)) m.p n W ((a2.kept hb (Nat.le_refl _)).le hb.size) l2 h0 h1)
 have HT:=hide (fun W n h0 h1=> szTable_n ot m.t.length ct n W l3 h0 h1)
 have HFI:=hide (show m.j.l.length≤1048576→fitPm m.p→m.t.length≤1048576→fitB0 m from fun x y z=> ⟨x,y,z⟩)
 clear a1 a2 a3 l1 l2 l3
 generalize m.j.l.length=nj at *
 generalize m.p.l.length=np at *
 generalize m.p.ring.length=nr at *
 generalize m.t.length=nt at *
 generalize m.j.key=kj at *
 generalize m.j.safe=sj at *
 generalize m.p.key=kp at *
 obtain ⟨W0,hW0⟩:∃W,(w.alloc (.cells #[.int .i64 kj,.slice o nj c,.int .i64 sj,.int .i64 kp,.slice ob np cb,.slice oR nr cR,.slice ot nt ct] 33))=W:=⟨_,rfl⟩
 have hb_W0:Below w.heap.size w W0:=by rw [←hW0];exact ((Below.refl _ _).alloc (Nat.le_refl _) _)
 have HB:=hide hb_W0
 clear hb_W0
 have zz:w.heap.size < W0.heap.size:=by rw [←hW0];simp
 have z0:W0.cell? ⟨w.heap.size,0,none⟩=some (.int .i64 kj):=by rw [←hW0];simp [go_sem]
 have z1:W0.cell? ⟨w.heap.size,1,none⟩=some (.slice o nj c):=by rw [←hW0];simp [go_sem]
 have z2:W0.cell? ⟨w.heap.size,2,none⟩=some (.int .i64 sj):=by rw [←hW0];simp [go_sem]
 have z3:W0.cell? ⟨w.heap.size,3,none⟩=some (.int .i64 kp):=by rw [←hW0];simp [go_sem]
 have z4:W0.cell? ⟨w.heap.size,4,none⟩=some (.slice ob np cb):=by rw [←hW0];simp [go_sem]
 have z5:W0.cell? ⟨w.heap.size,5,none⟩=some (.slice oR nr cR):=by rw [←hW0];simp [go_sem]
 have z6:W0.cell? ⟨w.heap.size,6,none⟩=some (.slice ot nt ct):=by rw [←hW0];simp [go_sem]
 go_enter Tryz.func37,Tryz.ntmps37
 go_wp2_with fail
 refine (HJ.out W0).mono ?_
 rintro e v1 ⟨rfl,hb⟩
 replace z0:=bC hb z0 zz
 replace z1:=bC hb z1 zz
 replace z2:=bC hb z2 zz
 replace z3:=bC hb z3 zz
 replace z4:=bC hb z4 zz
 replace z5:=bC hb z5 zz
 replace z6:=bC hb z6 zz
 replace zz:=Nat.lt_of_lt_of_le zz hb.size
 replace HB:=hide (HB.out.trans (hb.mono HB.out.size))
 clear hb
 by_cases hj:(1048576:Int) - nj < 0
 ·rw [if_pos hj]
  go_wp2
  go_ret
  exact ⟨⟨_,rfl,.inl ⟨by decide,by decide⟩⟩,HB.out⟩
 rw [if_neg hj]
 have hj0:(0:Int)≤1048576 - (nj:Int):=by omega
 have hj1:(1048576:Int) - (nj:Int)≤1048576:=by omega
 have HPQ:=hide (HP.out v1 HB.out _ hj0 hj1)
 clear HP
 obtain ⟨y,hy⟩:∃y,(1048576:Int) - (nj:Int)=y:=⟨_,rfl⟩
 rw [hy] at HPQ hj0 hj1 ⊢
 have HY:=hide hy
 clear hy hj
 go_wp2_with fail
 refine (HPQ.out).mono ?_
 rintro e v2 ⟨⟨z,rfl,hz⟩,hb⟩
 replace z0:=bC hb z0 zz
 replace z1:=bC hb z1 zz
 replace z2:=bC hb z2 zz
 replace z3:=bC hb z3 zz
 replace z4:=bC hb z4 zz
 replace z5:=bC hb z5 zz
 replace z6:=bC hb z6 zz
 replace zz:=Nat.lt_of_lt_of_le zz hb.size
 replace HB:=hide (HB.out.trans (hb.mono HB.out.size))
 clear hb
 rcases hz with ⟨hz1,hz2⟩|⟨hz1,hz2,HF⟩
 ·go_wp2
  go_ret
  exact ⟨⟨_,rfl,.inl ⟨by decide,by decide⟩⟩,HB.out⟩
 have HF':=hide HF
 clear HF
 have HTQ:=hide (HT.out v2 z hz1 (by omega))
 clear HT
 go_wp2_with fail
 refine (HTQ.out).mono ?_
 rintro e v3 ⟨rfl,hb⟩
 replace z0:=bC hb z0 zz
 replace z1:=bC hb z1 zz
 replace z2:=bC hb z2 zz
 replace z3:=bC hb z3 zz
 replace z4:=bC hb z4 zz
 replace z5:=bC hb z5 zz
 replace z6:=bC hb z6 zz
 replace zz:=Nat.lt_of_lt_of_le zz hb.size
 replace HB:=hide (HB.out.trans (hb.mono HB.out.size))
 clear hb
 by_cases ht:z - (nt:Int) < 0
 ·rw [if_pos ht]
  go_wp2
  go_ret
  exact ⟨⟨_,rfl,.inl ⟨by decide,by decide⟩⟩,HB.out⟩
 rw [if_neg ht]
 have ht0:(0:Int)≤z - (nt:Int):=by omega
 have HFF:Hid (fitB0 m):=HFI.out (by have:=HY.out;omega) HF'.out (by omega)
 go_wp2
 go_ret
 exact ⟨⟨_,rfl,.inr ⟨ht0,by omega,HFF.out⟩⟩,HB.out⟩
def okI (x:Sc):Prop:=0≤x.1∧x.1 < 6
def okO (p:Option Sc × Option Sc):Prop:=(∀o,p.1=some o→okI o)∧∀o,p.2=some o→okI o
theorem pickStep_ok {p:Option Sc × Option Sc} {x:Sc} (h:okO p) (hx:okI x):okO (pickStep p x):=by
 obtain ⟨a,t⟩:=p
 cases a with
 |none=> exact ⟨fun o e=> by cases e;exact hx,fun o e=> by cases e⟩
 |some o=>
  have ho:=h.1 o rfl
  unfold pickStep
  dsimp only
  split
  ·exact ⟨fun q e=> by cases e;exact hx,fun q e=> by cases e;exact ho⟩
  ·cases t with
   |none=> exact ⟨fun q e=> by cases e;exact ho,fun q e=> by cases e;exact hx⟩
   |some u=>
    have hu:=h.2 u rfl
    dsimp only
    split
    ·exact ⟨fun q e=> by cases e;exact ho,fun q e=> by cases e;exact hx⟩
    ·exact ⟨fun q e=> by cases e;exact ho,fun q e=> by cases e;exact hu⟩
theorem pick_okI:∀(l:List Sc) (p:Option Sc × Option Sc),okO p→(∀x∈l,okI x)→okO (l.foldl pickStep p)
 |[],p,h,_=> h
 |x::l,p,h,hl=> pick_okI l (pickStep p x) (pickStep_ok h (hl x (by simp))) (fun y hy=> hl y (by simp [hy]))
theorem backs_id {l:List Bk} (h:backsOkB l=true):∀x∈l,0≤x.1∧x.1 < 6:=fun x hx=> by
 obtain ⟨i,hi,e⟩:=List.getElem_of_mem hx
 have h1:=backsOkB_iff.1 h i hi
 unfold okAt at h1
 simp only [Bool.and_eq_true] at h1
 have h2:=backB_iff.1 h1.1
 have e2:l.getD i (0,0,false)=x:=by rw [List.getD_eq_getElem?_getD,List.getElem?_eq_getElem hi,←e];rfl
 rw [e2] at h2
 exact ⟨h2.1,h2.2.1⟩
theorem pairI_ok (key b:Int) {l:List Bk} (h:backsOkB l=true):pairOkB (pairI key b l)=true:=by
 unfold pairI
 split
 ·have h1:okO (pick (scL key b l)):=pick_okI _ (none,none) ⟨fun o e=> (nomatch e),fun o e=> (nomatch e)⟩ (fun x hx=> by
   unfold scL at hx
   simp only [List.mem_map,List.mem_filter] at hx
   obtain ⟨y,⟨hy,_⟩,rfl⟩:=hx
   exact backs_id h y hy)
  generalize pick (scL key b l)=p at *
  obtain ⟨a,t⟩:=p
  cases a with
  |none=> rfl
  |some o=>
   have ho:=h1.1 o rfl
   unfold okI at ho
   cases t with
   |none=> simp [pairL,pairOkB,idB,ho.1,ho.2]
   |some u=>
    have hu:=h1.2 u rfl
    unfold okI at hu
    simp [pairL,pairOkB,idB,ho.1,ho.2,hu.1,hu.2]
 ·rfl
def newF (key:Int) (l:List Bk):Pt:=fun b=> ipOf (pairI key b l)
theorem tabOk_new (key:Int) {l:List Bk} (h:backsOkB l=true):tabOkB (rowsOf (fun b=> pairI key b l) 8)=true:=
 tabOk_yes (rowsOf_length _ _) (fun i hi=> by rw [rowsOf_get _ _ _ hi];exact pairI_ok key i h)
theorem tabF_new (key:Int) (l:List Bk):ptA (tabF (rowsOf (fun b=> pairI key b l) 8))=ptA (newF key l):=
 ptA_congr (fun i hi=> by unfold tabF newF;rw [rowsOf_get _ _ _ hi])
theorem ptLL_new (key:Int) {l:List Bk} (h:backsOkB l=true):ptLL (newF key l)=rowsOf (fun b=> pairI key b l) 8:=by
 unfold ptLL rowsOf newF
 exact List.map_congr_left (fun i hi=> ipList_of (pairI_ok key i h))
theorem results_pt1 {fn:Func} {p:Tmp} (h:fn.results=#[.cell p 299]) (tmps:Array Value) (w:World) (g:Nat) (f:Pt) (hp:tmps.getD p undef=.pointer (some ⟨g,0,none⟩)) (hg:w.heap[g]? =some (.cells (ptA f) 299 (0,0))):
  (results fn tmps).run Tryz.prog w=.ok (ptv f) w:=results_cell_row h tmps w g _ (ptA f) (0,0) _ hp hg ptU rfl (ptIf f)
theorem newestTable_any (key:Int) (o:Option Addr) (cap:Nat) (l:List Bk) (w:World) (hR:RdK w.heap.size w o l) (hlen:l.length≤1048576) (hk:keyB key=true) (hl:backsOkB l=true):
  Calls Tryz.prog 212 #[.int .i64 key,.slice o l.length cap] w fun e w'=> e=.returned (ptv (newF key l))∧Below w.heap.size w w':=by
 obtain ⟨W0,hW0⟩:∃W,(w.alloc (.cells #[.bool false,.int .i64 0,.int .i64 0,.bool false,.int .i64 0,.int .i64 0,.bool false,.int .i64 0,.int .i64 0,.bool false,.int .i64 0,.int .i64 0,.bool false,.int .i64 0,.int .i64 0,.bool false,.int .i64 0,.int .i64 0,.bool false,.int .i64 0,.int .i64 0,.bool false,.int .i64 0,.int .i64 0] 299))=W:=⟨_,rfl⟩
 have hb0:Below w.heap.size w W0:=by rw [←hW0];exact (Below.refl _ _).alloc (Nat.le_refl _) _
 have z0:W0.heap[w.heap.size]? =some (.cells (ptA ptZ) 299 (0,0)):=by rw [←hW0];exact World.alloc_heap_new w _
 have HT:=hide (implTableOf_any key o cap l W0 ((hR.kept hb0 (Nat.le_refl _)).le hb0.size) hlen)
 have HN:=hide (show tabN key l=8 by rw [tabN,if_pos ⟨hk,hl⟩])
 have HOK:=hide (tabOk_new key hl)
 have HF:=hide (tabF_new key l)
 have HZ:=hide z0
 have HB0:=hide hb0
 clear z0 hb0 hR
 go_enter Tryz.func212,Tryz.ntmps212
 go_wp2_with fail
 refine HT.out.mono ?_
 rintro e v1 ⟨v,rfl,hv,hb1⟩
 obtain ⟨o1,c1,rfl,hr1⟩:=hv.open
 rw [HN.out] at hr1 ⊢
 have hp:=pairTableFrom_any o1 c1 (rowsOf (fun b=> pairI key b l) 8) v1 hr1 (by rw [rowsOf_length];omega) (fun i hi=> by rw [rowsOf_length] at hi;rw [rowsOf_get _ _ _ hi];have:=pairI_len key i l;omega)
 rw [HOK.out,if_pos rfl,rowsOf_length] at hp
 unfold ptv at hp
 rw [HF.out] at hp
 have HP:=hide hp
 have HB1:=hide (HB0.out.trans (hb1.mono HB0.out.size))
 have HZ1:=hide ((hb1.block _ (Array.getElem?_eq_some_iff.1 HZ.out).1).trans HZ.out)
 clear hv hb1 hr1 hp HT
 go_wp2_with fail
 refine HP.out.mono ?_
 rintro e v2 ⟨rfl,hb2⟩
 have HB2:=hide (HB1.out.trans (hb2.mono HB1.out.size))
 have hz2:=(hb2.block _ (Array.getElem?_eq_some_iff.1 HZ1.out).1).trans HZ1.out
 obtain ⟨W3,hW3⟩:∃W,(v2.alloc (.cells #[.bool false,.int .i64 0,.int .i64 0,.bool false,.int .i64 0,.int .i64 0,.bool false,.int .i64 0,.int .i64 0,.bool false,.int .i64 0,.int .i64 0,.bool false,.int .i64 0,.int .i64 0,.bool false,.int .i64 0,.int .i64 0,.bool false,.int .i64 0,.int .i64 0,.bool false,.int .i64 0,.int .i64 0] 299))=W:=⟨_,rfl⟩
 have z3:Hid (W3.heap[v2.heap.size]? =some (.cells (ptA ptZ) 299 (0,0))):=by rw [←hW3];exact World.alloc_heap_new v2 _
 have z4:Hid (W3.heap[w.heap.size]? =some (.cells (ptA ptZ) 299 (0,0))):=by rw [←hW3];exact (Below.heap_alloc _ _ _ (Array.getElem?_eq_some_iff.1 hz2).1).trans hz2
 have HNE:Hid (w.heap.size≠v2.heap.size):=Nat.ne_of_lt (Array.getElem?_eq_some_iff.1 hz2).1
 have HB3:Hid (Below w.heap.size w W3):=by rw [←hW3];exact HB2.out.alloc HB2.out.size _
 have hle:w.heap.size≤v2.heap.size:=HB2.out.size
 clear hb2 hz2 HB2 HP HB1 HZ1 HB0 HZ
 go_wp2_with (first|(refine wpList_store_pt rfl (.tmp 5) (.tmp 12) rfl v2.heap.size (newF key l) ptZ rfl rfl z3.out ?_)|(refine wpList_load_pt rfl (.tmp 5) rfl v2.heap.size rfl (newF key l) (setRow_heap _ _ _ _ _ _ z3.out) ?_)|(refine wpList_store_pt rfl (.tmp 4) (.tmp 14) rfl w.heap.size (newF key l) ptZ rfl rfl ((setRow_other _ _ _ _ HNE.out).trans z4.out) ?_))
 refine bodyPost_ret (results_pt1 rfl _ _ w.heap.size (newF key l) rfl (setRow_heap _ _ _ _ _ _ ((setRow_other _ _ _ _ HNE.out).trans z4.out))) rfl ⟨rfl,below_row (below_row HB3.out hle _) (Nat.le_refl _) _⟩
theorem cellsLawsBal:Tryz.prog.cellsOf 33=7:=by kernel_rfl
theorem cellsIntB:Tryz.prog.cellsOf 3=1:=by kernel_rfl
theorem cellsLawsBackSB:Tryz.prog.cellsOf 25=1:=by kernel_rfl
theorem cellsIntSSSB:Tryz.prog.cellsOf 26=1:=by kernel_rfl
end Go.Proofs.YtgplppfbinfelaaGreat
