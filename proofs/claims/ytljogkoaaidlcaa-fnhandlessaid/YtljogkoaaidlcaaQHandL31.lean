/- Several texts in one: SNext2, SNext3. -/
import Derived.Test.YtljogkoaaidlcaaQHandL21
import Derived.Test.YtljogkoaaidlcaaQHandL30
import Derived.Test.YtljogkoaaidlcaaQHandL24
namespace Go.Proofs.Ytljogkoaaidlcaa
open Go.ChangeShapes Go.WideShapes Go.ChangeAt Go.RowKit Go.Joins
set_option linter.unusedVariables false
set_option linter.unusedSimpArgs false
set_option maxRecDepth 100000
set_option maxHeartbeats 40000000
theorem Q81 (w:World) (k j:Nat) (cs:Array Value) (t:TypeId) (v:Value) (h:w.heap[k]? =some (.cells cs t (0,0))):(w.setCell ⟨k,j,none⟩ v).heap[k]? =some (.cells (cs.setIfInBounds j v) t (0,0)):=by
 simp [World.setCell,Array.getElem?_modify,h]
structure Cm where
 a:Int
 b:Int
 f:Int
 s:Int
 l:List Int
 g:List (Int × Int)
 pl:Int
 st:Int
def Cm.ok (c:Cm):Bool:=Q0q c.a c.b c.f c.s c.l.length c.g c.pl c.st
def Q8i (w:World) (base:Nat) (v:Value) (m:Cm):Prop:=∃vl vg,v=crr m.a m.b m.f m.s vl vg m.pl m.st∧ownB w base vl m.l∧ownG w base vg m.g
theorem Q6E {w:World} {base:Nat} {e:TypeId} {size:Nat} {v:Value} {n:Nat} {xs:List Value} (h:w.ownsRow base e size v n xs) (q j:Nat) (u:Value) (hq:∀b,v.ownBlock=some b→b≠q):(w.setCell ⟨q,j,none⟩ u).ownsRow base e size v n xs:=by
 refine World.ownsRow.kept h (w':=w.setCell ⟨q,j,none⟩ u) (row:=some q) ⟨rfl,rfl,rfl,by simp [World.setCell],fun k hk hne=> Below.heap_setCell w ⟨q,j,none⟩ u k (fun e=> hne (by rw [e]))⟩ ?_
 cases hob:v.ownBlock with
 |none=> exact .inl rfl
 |some b=> right;intro e';injection e' with e';exact hq b hob e'
end Go.Proofs.Ytljogkoaaidlcaa
