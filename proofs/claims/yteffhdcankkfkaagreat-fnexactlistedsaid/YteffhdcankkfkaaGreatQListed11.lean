/- The scoreboard's Push and Pop, and the library's. -/
import Derived.Deep.RegionLaw
import Derived.Maps.AppendAt
import Derived.Test.YteffhdcankkfkaaGreatQListed10
namespace Go.Proofs.YteffhdcankkfkaaGreat
open Go.ChangeShapes Go.WideShapes Go.ChangeAt Go.RowKit Go.Joins
set_option linter.unusedVariables false
set_option linter.unusedSimpArgs false
set_option maxRecDepth 100000
set_option maxHeartbeats 40000000
theorem Qiq:(Tryz.prog.info? 361).map (fun i=>(i.zero,i.size,i.bytes))=some (some (.agg #[.int .i64 0,.int .i64 0]),2,16):=by kernel_rfl
structure BrdV (k:Nat) (v:Value) (w:World) (l:List Sc):Prop where
 box:w.heap[k]? =some (.cells #[v] 358 (0,0))
 row:QdT w (k+1) v l
theorem Brd.v {k g c:Nat} {w:World} {l:List Sc} (h:Brd k g c w l):BrdV k (.slice (some ⟨g,0,none⟩) l.length c) w l:=⟨h.box,h.row⟩
theorem BrdV.cell {k:Nat} {v:Value} {w:World} {l:List Sc} (h:BrdV k v w l):w.cell? ⟨k,0,none⟩=some v:=by simp[World.cell?,h.box]
theorem BrdV.frozen {k:Nat} {v:Value} {w:World} {l:List Sc} (h:BrdV k v w l):w.frozen? ⟨k,0,none⟩=false:=by simp[World.frozen?,h.box]
theorem BrdV.lt {k:Nat} {v:Value} {w:World} {l:List Sc} (h:BrdV k v w l):k < w.heap.size:=(KEq h.box)
theorem BrdV.slice {k:Nat} {v:Value} {w:World} {l:List Sc} (h:BrdV k v w l):∃o c,v=.slice o l.length c:=by
 obtain⟨o,c,e,_⟩:=h.row.open;exact⟨o,c,e⟩
theorem BrdV.ne {k:Nat} {v:Value} {w:World} {l:List Sc} (h:BrdV k v w l):some k≠v.ownBlock:=fun e=>by have:=(h.row.lt k e.symm).1;omega
theorem QfG {w:World} {k:Nat} {v:Value} (h:w.heap[k]? =some (.cells #[v] 358 (0,0))):w.cell? ⟨k,0,none⟩=some v:=by simp[World.cell?,h]
theorem Qdl {w:World} {k:Nat} {v:Value} (h:w.heap[k]? =some (.cells #[v] 358 (0,0))):w.frozen? ⟨k,0,none⟩=false:=by simp[World.frozen?,h]
theorem Qc9 {w:World} {k:Nat} {v u:Value} (h:w.heap[k]? =some (.cells #[v] 358 (0,0))):(w.setCell ⟨k,0,none⟩ u).heap[k]? =some (.cells #[u] 358 (0,0)):=by
 simp[World.setCell,Array.getElem?_modify,h]
theorem QgG {w c:World} {O X:Obj} {k:Nat} {r:Option Nat} (a:w.heap[k]? =some X) (f:World.grownBy (World.drew (w.alloc O)) c r) (b:some k≠r):c.heap[k]? =some X:=by
 have g:k < w.heap.size:=(KEq a)
 have hs:(w.alloc O).heap.size=w.heap.size+1:=by simp
 have d:=f.block k (show k < (w.alloc O).heap.size from by omega) b;exact d.trans ((show(w.alloc O).drew.heap[k]? =(w.alloc O).heap[k]? from rfl).trans ((((Below.refl w.heap.size w).alloc (Kaq _) O).block k g).trans a))
theorem Qd8 {w a:World} {O:Obj} {k:Nat} {r:Option Nat} (d:k < w.heap.size) (c:World.grownBy (World.drew (w.alloc O)) a r) (f:∀b,r=some b->k<=b):Below k w a:=
 ((Below.refl k w).alloc (KIq d) O).drew.grown c (by show k<=(w.alloc O).heap.size;simp;omega) f
theorem Q7o {f:Array Oper} {o:Oper} {a:Act} {w:World} {K:Act->World->Prop} {Q:Exit->Act->World->Prop} {E:Prop} (p:o.guard=none) (s x:Operand)
  (B:o.op=.call { callee:=.builtin .append,args:=#[s,x],argTypes:=#[358,358] }) (base:Nat) (v:Value) (y:List Sc) (hs:a.eval s=v) (d:QdT w base v y)
  (n:Nat) (i g:Int) (D:a.eval x=.slice (some ⟨n,0,none⟩) 1 1) (A:w.cell? ⟨n,0,none⟩=some (.int .i64 i)) (m:w.cell? ⟨n,1,none⟩=some (.int .i64 g)) (z:y.length<=1048576) (b:base<=w.heap.size)
  (h:∀l k,QdT k base l (y++[(i,g)])->w.grownBy k v.ownBlock->K (a.put o.dst l) k):if Region.wanted o (yielded f a.tmps)=true then Oper.wp Tryz.prog o a w K Q else E:=by
 have C:Region.wanted o (yielded f a.tmps)=true:=by simp[Region.wanted,p]
 rw[if_pos C];obtain⟨F,hi,q,r,t⟩:=info_parts Qiq;refine wp_append_own _ s x 358 B base 361 F (.agg #[.int .i64 0,.int .i64 0]) 2 16 Tryz.underlying358 hi q r t rfl (by decide) v _ _ hs d ⟨n,0,none⟩ 1 1 [.int .i64 i,.int .i64 g] D rfl ?_ (by simp[Value.oneCell']) (by unfold maxLen;omega) (by omega) b ?_
 ·intro j u c
  match j,c with
  |0,c=>simp at c;subst c;exact A
  |1,c=>simp at c;subst c;exact m
 ·intro l k m h2 _
  refine h l k ?_ h2;unfold QdT ownL
  simpa[Qcq]using m
theorem QfJ (t0:TypeId) (i g:Int) (w:World):Sem.run Tryz.prog (Instr.typeAssert (.iface 361 (.agg #[.int .i64 i,.int .i64 g])) t0 361 false) w=.ok (.agg #[.int .i64 i,.int .i64 g]) w:=by kernel_rfl
theorem Qdm (k:Nat) (v:Value) (l:List Sc) (i g:Int) (w:World) (d:BrdV k v w l) (s:l.length<=1000000):
  Calls Tryz.prog 297 #[.pointer (some ⟨k,0,none⟩),.iface 361 (.agg #[.int .i64 i,.int .i64 g])] w fun e t=>e=.returned (.tuple #[])/\∃C c,Brd k C c t (l++[(i,g)])/\Below k w t:=by
 obtain⟨o,c,rfl⟩:=d.slice;have y:=d.cell;have F:=d.frozen;have r:=d.lt
 have E:∀O,(w.alloc O).cell? ⟨k,0,none⟩=some (.slice o l.length c):=fun O=>((Below.refl w.heap.size w).alloc (Kaq _) O).cell (p:=⟨k,0,none⟩) r|>.trans y
 have x:=d.ne;have m:=d.box
 have G:=fun D=>QfJ D i g
 go_enter Tryz.func297,Tryz.ntmps297;go_wp2
 go_region_law (first|(refine Q7o rfl (.tmp 7) (.tmp 10) rfl (k+1) (.slice o l.length c) l rfl (d.row.alloc _) w.heap.size i g rfl ?h1 ?h2 ?h3 ?h4 ?_;(case h1=>simp);(case h2=>simp);(case h3=>omega);(case h4=>(show k+1<=(w.alloc _).heap.size;simp;omega));intro H I h j;obtain⟨q,n,A⟩:=ownsRow_form h (by simp);rw[A]at h ⊢;have f:=QgG m j x;have z:=QfG f;have B:=Qdl f))
 all_goals (try go_wp2)
 all_goals go_end0
 all_goals (
  refine⟨rfl,q,n,⟨?_, ?_⟩, ?_⟩
  ·have:=Qc9 (u:=.slice (some ⟨q,0,none⟩) (l.length+1) n) f
   simpa using this
  ·exact ownsRow_setCell_below h (a:=⟨k,0,none⟩) (Nat.lt_succ_self k) _
  ·exact(Qd8 r j (fun b e=>by have:=(d.row.lt b e).1;omega)).setCell (p:=⟨k,0,none⟩) (Kaq _) _)
end Go.Proofs.YteffhdcankkfkaaGreat
