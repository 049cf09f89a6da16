/- The scoreboard's Push and Pop, and the library's. -/
import Derived.Deep.RegionLaw
import Derived.Maps.AppendAt
import Derived.Test.YtpneolgdghbinaaGreatQSends15
namespace Go.Proofs.YtpneolgdghbinaaGreat
open Go.ChangeShapes Go.WideShapes Go.ChangeAt Go.RowKit Go.Joins
set_option linter.unusedVariables false
set_option linter.unusedSimpArgs false
set_option maxRecDepth 100000
set_option maxHeartbeats 40000000
theorem Qh9:(Tryz.prog.info? 266).map (fun i=> (i.zero,i.size,i.bytes))=some (some (.agg #[.int .i64 0,.int .i64 0]),2,16):=by kernel_rfl
structure BrdV (k:Nat) (v:Value) (w:World) (l:List Sc):Prop where
 box:w.heap[k]? =some (.cells #[v] 264 (0,0))
 row:QcA w (k+1) v l
theorem Brd.v {k g c:Nat} {w:World} {l:List Sc} (h:Brd k g c w l):BrdV k (.slice (some ⟨g,0,none⟩) l.length c) w l:=⟨h.box,h.row⟩
theorem BrdV.cell {k:Nat} {v:Value} {w:World} {l:List Sc} (h:BrdV k v w l):w.cell? ⟨k,0,none⟩=some v:=by simp [World.cell?,h.box]
theorem BrdV.frozen {k:Nat} {v:Value} {w:World} {l:List Sc} (h:BrdV k v w l):w.frozen? ⟨k,0,none⟩=false:=by simp [World.frozen?,h.box]
theorem BrdV.lt {k:Nat} {v:Value} {w:World} {l:List Sc} (h:BrdV k v w l):k < w.heap.size:=(Array.getElem?_eq_some_iff.1 h.box).1
theorem BrdV.slice {k:Nat} {v:Value} {w:World} {l:List Sc} (h:BrdV k v w l):∃o c,v=.slice o l.length c:=by
 obtain ⟨o,c,e,_⟩:=h.row.open
 exact ⟨o,c,e⟩
theorem BrdV.ne {k:Nat} {v:Value} {w:World} {l:List Sc} (h:BrdV k v w l):some k≠v.ownBlock:=fun e=> by have:=(h.row.lt k e.symm).1;omega
theorem QfD {w:World} {k:Nat} {v:Value} (h:w.heap[k]? =some (.cells #[v] 264 (0,0))):w.cell? ⟨k,0,none⟩=some v:=by simp [World.cell?,h]
theorem QbF {w:World} {k:Nat} {v:Value} (h:w.heap[k]? =some (.cells #[v] 264 (0,0))):w.frozen? ⟨k,0,none⟩=false:=by simp [World.frozen?,h]
theorem Qb8 {w:World} {k:Nat} {v u:Value} (h:w.heap[k]? =some (.cells #[v] 264 (0,0))):(w.setCell ⟨k,0,none⟩ u).heap[k]? =some (.cells #[u] 264 (0,0)):=by
 simp [World.setCell,Array.getElem?_modify,h]
theorem Qft {w w8:World} {O X:Obj} {k:Nat} {r:Option Nat} (hbx:w.heap[k]? =some X) (hg:World.grownBy (World.drew (w.alloc O)) w8 r) (hne:some k≠r):w8.heap[k]? =some X:=by
 have hk:k < w.heap.size:=(Array.getElem?_eq_some_iff.1 hbx).1
 have hs:(w.alloc O).heap.size=w.heap.size+1:=by simp
 have h1:=hg.block k (show k < (w.alloc O).heap.size from by omega) hne
 exact h1.trans ((show (w.alloc O).drew.heap[k]? =(w.alloc O).heap[k]? from rfl).trans ((((Below.refl w.heap.size w).alloc (Kaq _) O).block k hk).trans hbx))
theorem QbM {w w8:World} {O:Obj} {k:Nat} {r:Option Nat} (hk:k < w.heap.size) (hg:World.grownBy (World.drew (w.alloc O)) w8 r) (hr:∀b,r=some b→k≤b):Below k w w8:=
 ((Below.refl k w).alloc (Nat.le_of_lt hk) O).drew.grown hg (by show k≤(w.alloc O).heap.size;simp;omega) hr
theorem Q7C {ops:Array Oper} {o:Oper} {a:Act} {w:World} {K:Act→World→Prop} {Q:Exit→Act→World→Prop} {E:Prop} (hgd:o.guard=none) (s x:Operand)
  (ho:o.op=.call { callee:=.builtin .append,args:=#[s,x],argTypes:=#[264,264] }) (base:Nat) (v:Value) (l0:List Sc) (hs:a.eval s=v) (hown:QcA w base v l0)
  (n:Nat) (i g:Int) (hx:a.eval x=.slice (some ⟨n,0,none⟩) 1 1) (h0:w.cell? ⟨n,0,none⟩=some (.int .i64 i)) (h1:w.cell? ⟨n,1,none⟩=some (.int .i64 g)) (hlen:l0.length≤1048576) (hbase:base≤w.heap.size)
  (h:∀v' w',QcA w' base v' (l0++[(i,g)])→w.grownBy w' v.ownBlock→K (a.put o.dst v') w'):if Region.wanted o (yielded ops a.tmps)=true then Oper.wp Tryz.prog o a w K Q else E:=by
 have hw:Region.wanted o (yielded ops a.tmps)=true:=by simp [Region.wanted,hgd]
 rw [if_pos hw]
 obtain ⟨i0,hi,hz0,hz1,hz2⟩:=info_parts Qh9
 refine wp_append_own _ s x 264 ho base 266 i0 (.agg #[.int .i64 0,.int .i64 0]) 2 16 Tryz.underlying264 hi hz0 hz1 hz2 rfl (by decide) v _ _ hs hown ⟨n,0,none⟩ 1 1 [.int .i64 i,.int .i64 g] hx rfl ?_ (by simp [Value.oneCell']) (by unfold maxLen;omega) (by omega) hbase ?_
 ·intro j u hj
  match j,hj with
  |0,hj=> simp at hj;subst hj;exact h0
  |1,hj=> simp at hj;subst hj;exact h1
 ·intro v' w' h1 h2 _
  refine h v' w' ?_ h2
  unfold QcA ownL
  simpa [Qb1] using h1
theorem Qf0 (t0:TypeId) (i g:Int) (w:World):Sem.run Tryz.prog (Instr.typeAssert (.iface 266 (.agg #[.int .i64 i,.int .i64 g])) t0 266 false) w=.ok (.agg #[.int .i64 i,.int .i64 g]) w:=by kernel_rfl
theorem QbZ (k:Nat) (v:Value) (l:List Sc) (i g:Int) (w:World) (hb:BrdV k v w l) (hlen:l.length≤1000000):
  Calls Tryz.prog 217 #[.pointer (some ⟨k,0,none⟩),.iface 266 (.agg #[.int .i64 i,.int .i64 g])] w fun e w'=> e=.returned (.tuple #[])∧∃g' c,Brd k g' c w' (l++[(i,g)])∧Below k w w':=by
 obtain ⟨o,c,rfl⟩:=hb.slice;have cb:=hb.cell;have fb:=hb.frozen;have hk:=hb.lt
 have ca:∀O,(w.alloc O).cell? ⟨k,0,none⟩=some (.slice o l.length c):=fun O=> ((Below.refl w.heap.size w).alloc (Kaq _) O).cell (p:=⟨k,0,none⟩) hk|>.trans cb
 have HN:=hb.ne;have HBX:=hb.box
 have ta:=fun t0=> Qf0 t0 i g
 go_enter Tryz.func217,Tryz.ntmps217
 go_wp2
 go_region_law (first|(refine Q7C rfl (.tmp 7) (.tmp 10) rfl (k+1) (.slice o l.length c) l rfl (hb.row.alloc _) w.heap.size i g rfl ?h1 ?h2 ?h3 ?h4 ?_;(case h1=> simp);(case h2=> simp);(case h3=> omega);(case h4=> (show k+1≤(w.alloc _).heap.size;simp;omega));intro v8 w8 hv8 hg8;obtain ⟨g8,c8,e8⟩:=ownsRow_form hv8 (by simp);rw [e8] at hv8 ⊢;have bx8:=Qft HBX hg8 HN;have cb8:=QfD bx8;have fb8:=QbF bx8))
 all_goals (try go_wp2)
 all_goals go_end0
 all_goals (
  refine ⟨rfl,g8,c8,⟨?_, ?_⟩, ?_⟩
  ·have:=Qb8 (u:=.slice (some ⟨g8,0,none⟩) (l.length+1) c8) bx8
   simpa using this
  ·exact ownsRow_setCell_below hv8 (a:=⟨k,0,none⟩) (Nat.lt_succ_self k) _
  ·exact (QbM hk hg8 (fun b e=> by have:=(hb.row.lt b e).1;omega)).setCell (p:=⟨k,0,none⟩) (Kaq _) _)
end Go.Proofs.YtpneolgdghbinaaGreat
