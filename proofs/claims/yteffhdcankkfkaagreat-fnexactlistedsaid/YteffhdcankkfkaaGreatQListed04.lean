/- A region that draws its order, whose operations only read what lay there and whose callees only lay new blocks: walked once, in the order of the text. -/
import Derived.BigQuiet
import Derived.Deep.Quiet
import Derived.Test.YteffhdcankkfkaaGreatQListed01
namespace Go.Proofs.YteffhdcankkfkaaGreat
open Go.ChangeShapes Go.WideShapes Go.ChangeAt Go.RowKit Go.Joins
set_option linter.unusedVariables false
set_option linter.unusedSimpArgs false
set_option maxRecDepth 100000
set_option maxHeartbeats 40000000
structure Grown (w:World) where
 v:World
 b:Below w.heap.size w v
theorem Q0b {P:Program} {id:Nat} {Q:Exit->Act->World->Prop} {a:Act} {w:World} {l:List Oper} (d:P.follows .mixedOrders=true) (c:Region.lexB .any l.toArray=true)
  (h:Nonempty (Grown w)->wpQuiet P l.toArray (fun b=> ∃p:Grown w,b=p.v) (fun a'=> ∀b,(∃p:Grown w,b=p.v)->Q .normal a' b) l a):(Code.region id l.toArray true).wp P Q a w:=
 wp_region_quiet (C:=fun b=> ∃p:Grown w,b=p.v) d c ⟨⟨w.drew,KHq KBq⟩,rfl⟩ (by simpa using h ⟨⟨w,KBq⟩⟩)
theorem Q0r {P:Program} {f:FuncId} {args:Array Value} {w:World} {v:Value} (p:Grown w)
  (h:Calls P f args p.v fun e a=>e=.returned v/\Below p.v.heap.size p.v a):Calls P f args p.v fun e c=>e=.returned v/\∃q:Grown w,c=q.v:=
 h.mono fun _ a ⟨g,d⟩=>⟨g,⟨a,p.b.trans (d.mono p.b.size)⟩,rfl⟩
theorem Grown.cell {w:World} {b off:Nat} {u:Value} (h:w.cell? ⟨b,off,none⟩=some u) (hb:b < w.heap.size):∀p:Grown w,p.v.cell? ⟨b,off,none⟩=some u:=
 fun p=>(p.b.cell (p:=⟨b,off,none⟩) hb).trans h
end Go.Proofs.YteffhdcankkfkaaGreat
