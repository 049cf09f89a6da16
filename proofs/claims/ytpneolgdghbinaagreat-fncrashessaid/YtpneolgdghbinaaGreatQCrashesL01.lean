/- Several texts in one: Base, SFlow, SSeg. -/
import Derived.WalkKit
import Derived.ProofKit
import Derived.OpenShut
import Derived.Below
import Derived.OwnWalk
import Derived.Outline
import Derived.Lib.SmallJoins
import Derived.WalkLawsBesides
import Derived.Test.YtpneolgdghbinaaGreatRows
namespace Go.Proofs.YtpneolgdghbinaaGreat
open Go.ChangeShapes Go.WideShapes Go.ChangeAt Go.RowKit Go.Joins
set_option linter.unusedVariables false
set_option linter.unusedSimpArgs false
set_option maxRecDepth 100000
set_option maxHeartbeats 40000000
theorem KBq {n : Nat} {w : World} : Below n w w := Below.refl n w
theorem KEq {α : Type} {a : Array α} {i : Nat} {v : α} (h : a[i]? = some v) : i < a.size := (Array.getElem?_eq_some_iff.1 h).1
abbrev KFq := @List.getD_eq_getElem?_getD
abbrev KGq := @List.getElem?_eq_getElem
abbrev KHq := @Below.drew
abbrev KIq := @Nat.le_of_lt
abbrev KLq := @World.ownsRow_nil
abbrev KMq := @Nat.not_lt_zero
abbrev KNq := @Below.setCell
abbrev KOq := @Below.alloc
theorem Kaq (n : Nat) : n <= n := Nat.le_refl n
theorem Kbq {a b c : Nat} (h : a < b) (k : b <= c) : a < c := Nat.lt_of_lt_of_le h k
theorem Kcq (n : Nat) : 0 <= n := Nat.zero_le n
theorem Kdq {a b c : Nat} (h : a <= b) (k : b <= c) : a <= c := Nat.le_trans h k
theorem alc2v0v2 {w W:World} {c:Obj} {a b:Value} {T:TypeId} (h:((w.alloc (.cells #[a,b] T)).alloc c)=W):W.cell? ⟨w.heap.size,0,none⟩=some a/\W.cell? ⟨w.heap.size,1,none⟩=some b:=by subst h;refine⟨?_,?_⟩<;>simp[go_sem]
theorem alc2v1v2 {w W:World} {c:Obj} {a b:Value} {T:TypeId} (h:((w.alloc c).alloc (.cells #[a,b] T))=W):W.cell? ⟨w.heap.size+1,0,none⟩=some a/\W.cell? ⟨w.heap.size+1,1,none⟩=some b:=by subst h;refine⟨?_,?_⟩<;>simp[go_sem]
theorem alc2v1v3 {w W:World} {c d:Obj} {a b:Value} {T:TypeId} (h:(((w.alloc c).alloc (.cells #[a,b] T)).alloc d)=W):W.cell? ⟨w.heap.size+1,0,none⟩=some a/\W.cell? ⟨w.heap.size+1,1,none⟩=some b:=by subst h;refine⟨?_,?_⟩<;>simp[go_sem]
theorem alc3v0v1 {w W:World} {a b c2:Value} {T:TypeId} (h:(w.alloc (.cells #[a,b,c2] T))=W):W.cell? ⟨w.heap.size,0,none⟩=some a/\W.cell? ⟨w.heap.size,1,none⟩=some b/\W.cell? ⟨w.heap.size,2,none⟩=some c2:=by subst h;refine⟨?_,?_,?_⟩<;>simp[go_sem]
theorem alc3v0v2 {w W:World} {c:Obj} {a b c2:Value} {T:TypeId} (h:((w.alloc (.cells #[a,b,c2] T)).alloc c)=W):W.cell? ⟨w.heap.size,0,none⟩=some a/\W.cell? ⟨w.heap.size,1,none⟩=some b/\W.cell? ⟨w.heap.size,2,none⟩=some c2:=by subst h;refine⟨?_,?_,?_⟩<;>simp[go_sem]
theorem alc3v0v3 {w W:World} {c d:Obj} {a b c2:Value} {T:TypeId} (h:(((w.alloc (.cells #[a,b,c2] T)).alloc c).alloc d)=W):W.cell? ⟨w.heap.size,0,none⟩=some a/\W.cell? ⟨w.heap.size,1,none⟩=some b/\W.cell? ⟨w.heap.size,2,none⟩=some c2:=by subst h;refine⟨?_,?_,?_⟩<;>simp[go_sem]
theorem alc3v1v2 {w W:World} {c:Obj} {a b c2:Value} {T:TypeId} (h:((w.alloc c).alloc (.cells #[a,b,c2] T))=W):W.cell? ⟨w.heap.size+1,0,none⟩=some a/\W.cell? ⟨w.heap.size+1,1,none⟩=some b/\W.cell? ⟨w.heap.size+1,2,none⟩=some c2:=by subst h;refine⟨?_,?_,?_⟩<;>simp[go_sem]
theorem alc3v1v3 {w W:World} {c d:Obj} {a b c2:Value} {T:TypeId} (h:(((w.alloc c).alloc (.cells #[a,b,c2] T)).alloc d)=W):W.cell? ⟨w.heap.size+1,0,none⟩=some a/\W.cell? ⟨w.heap.size+1,1,none⟩=some b/\W.cell? ⟨w.heap.size+1,2,none⟩=some c2:=by subst h;refine⟨?_,?_,?_⟩<;>simp[go_sem]
theorem alc3v2v3 {w W:World} {c d:Obj} {a b c2:Value} {T:TypeId} (h:(((w.alloc c).alloc d).alloc (.cells #[a,b,c2] T))=W):W.cell? ⟨w.heap.size+1+1,0,none⟩=some a/\W.cell? ⟨w.heap.size+1+1,1,none⟩=some b/\W.cell? ⟨w.heap.size+1+1,2,none⟩=some c2:=by subst h;refine⟨?_,?_,?_⟩<;>simp[go_sem]
theorem alc5v0v1 {w W:World} {a b c2 c d:Value} {T:TypeId} (h:(w.alloc (.cells #[a,b,c2,c,d] T))=W):W.cell? ⟨w.heap.size,0,none⟩=some a/\W.cell? ⟨w.heap.size,1,none⟩=some b/\W.cell? ⟨w.heap.size,2,none⟩=some c2/\W.cell? ⟨w.heap.size,3,none⟩=some c/\W.cell? ⟨w.heap.size,4,none⟩=some d:=by subst h;refine⟨?_,?_,?_,?_,?_⟩<;>simp[go_sem]
theorem alc5v1v2 {w W:World} {f:Obj} {a b c2 c d:Value} {T:TypeId} (h:((w.alloc f).alloc (.cells #[a,b,c2,c,d] T))=W):W.cell? ⟨w.heap.size+1,0,none⟩=some a/\W.cell? ⟨w.heap.size+1,1,none⟩=some b/\W.cell? ⟨w.heap.size+1,2,none⟩=some c2/\W.cell? ⟨w.heap.size+1,3,none⟩=some c/\W.cell? ⟨w.heap.size+1,4,none⟩=some d:=by subst h;refine⟨?_,?_,?_,?_,?_⟩<;>simp[go_sem]
theorem alc5v1v3 {w W:World} {f g:Obj} {a b c2 c d:Value} {T:TypeId} (h:(((w.alloc f).alloc (.cells #[a,b,c2,c,d] T)).alloc g)=W):W.cell? ⟨w.heap.size+1,0,none⟩=some a/\W.cell? ⟨w.heap.size+1,1,none⟩=some b/\W.cell? ⟨w.heap.size+1,2,none⟩=some c2/\W.cell? ⟨w.heap.size+1,3,none⟩=some c/\W.cell? ⟨w.heap.size+1,4,none⟩=some d:=by subst h;refine⟨?_,?_,?_,?_,?_⟩<;>simp[go_sem]
theorem alc5v2v3 {w W:World} {f g:Obj} {a b c2 c d:Value} {T:TypeId} (h:(((w.alloc f).alloc g).alloc (.cells #[a,b,c2,c,d] T))=W):W.cell? ⟨w.heap.size+1+1,0,none⟩=some a/\W.cell? ⟨w.heap.size+1+1,1,none⟩=some b/\W.cell? ⟨w.heap.size+1+1,2,none⟩=some c2/\W.cell? ⟨w.heap.size+1+1,3,none⟩=some c/\W.cell? ⟨w.heap.size+1+1,4,none⟩=some d:=by subst h;refine⟨?_,?_,?_,?_,?_⟩<;>simp[go_sem]
theorem alc7v0v1 {w W:World} {a b c2 c d f g:Value} {T:TypeId} (h:(w.alloc (.cells #[a,b,c2,c,d,f,g] T))=W):W.cell? ⟨w.heap.size,0,none⟩=some a/\W.cell? ⟨w.heap.size,1,none⟩=some b/\W.cell? ⟨w.heap.size,2,none⟩=some c2/\W.cell? ⟨w.heap.size,3,none⟩=some c/\W.cell? ⟨w.heap.size,4,none⟩=some d/\W.cell? ⟨w.heap.size,5,none⟩=some f/\W.cell? ⟨w.heap.size,6,none⟩=some g:=by subst h;refine⟨?_,?_,?_,?_,?_,?_,?_⟩<;>simp[go_sem]
theorem alc7v0v2 {w W:World} {i:Obj} {a b c2 c d f g:Value} {T:TypeId} (h:((w.alloc (.cells #[a,b,c2,c,d,f,g] T)).alloc i)=W):W.cell? ⟨w.heap.size,0,none⟩=some a/\W.cell? ⟨w.heap.size,1,none⟩=some b/\W.cell? ⟨w.heap.size,2,none⟩=some c2/\W.cell? ⟨w.heap.size,3,none⟩=some c/\W.cell? ⟨w.heap.size,4,none⟩=some d/\W.cell? ⟨w.heap.size,5,none⟩=some f/\W.cell? ⟨w.heap.size,6,none⟩=some g:=by subst h;refine⟨?_,?_,?_,?_,?_,?_,?_⟩<;>simp[go_sem]
theorem alc7v0v3 {w W:World} {i j:Obj} {a b c2 c d f g:Value} {T:TypeId} (h:(((w.alloc (.cells #[a,b,c2,c,d,f,g] T)).alloc i).alloc j)=W):W.cell? ⟨w.heap.size,0,none⟩=some a/\W.cell? ⟨w.heap.size,1,none⟩=some b/\W.cell? ⟨w.heap.size,2,none⟩=some c2/\W.cell? ⟨w.heap.size,3,none⟩=some c/\W.cell? ⟨w.heap.size,4,none⟩=some d/\W.cell? ⟨w.heap.size,5,none⟩=some f/\W.cell? ⟨w.heap.size,6,none⟩=some g:=by subst h;refine⟨?_,?_,?_,?_,?_,?_,?_⟩<;>simp[go_sem]
theorem alc7v1v2 {w W:World} {i:Obj} {a b c2 c d f g:Value} {T:TypeId} (h:((w.alloc i).alloc (.cells #[a,b,c2,c,d,f,g] T))=W):W.cell? ⟨w.heap.size+1,0,none⟩=some a/\W.cell? ⟨w.heap.size+1,1,none⟩=some b/\W.cell? ⟨w.heap.size+1,2,none⟩=some c2/\W.cell? ⟨w.heap.size+1,3,none⟩=some c/\W.cell? ⟨w.heap.size+1,4,none⟩=some d/\W.cell? ⟨w.heap.size+1,5,none⟩=some f/\W.cell? ⟨w.heap.size+1,6,none⟩=some g:=by subst h;refine⟨?_,?_,?_,?_,?_,?_,?_⟩<;>simp[go_sem]
theorem alc7v2v3 {w W:World} {i j:Obj} {a b c2 c d f g:Value} {T:TypeId} (h:(((w.alloc i).alloc j).alloc (.cells #[a,b,c2,c,d,f,g] T))=W):W.cell? ⟨w.heap.size+1+1,0,none⟩=some a/\W.cell? ⟨w.heap.size+1+1,1,none⟩=some b/\W.cell? ⟨w.heap.size+1+1,2,none⟩=some c2/\W.cell? ⟨w.heap.size+1+1,3,none⟩=some c/\W.cell? ⟨w.heap.size+1+1,4,none⟩=some d/\W.cell? ⟨w.heap.size+1+1,5,none⟩=some f/\W.cell? ⟨w.heap.size+1+1,6,none⟩=some g:=by subst h;refine⟨?_,?_,?_,?_,?_,?_,?_⟩<;>simp[go_sem]
theorem alc8v2v3 {w W:World} {j k:Obj} {a b c2 c d f g i:Value} {T:TypeId} (h:(((w.alloc j).alloc k).alloc (.cells #[a,b,c2,c,d,f,g,i] T))=W):W.cell? ⟨w.heap.size+1+1,0,none⟩=some a/\W.cell? ⟨w.heap.size+1+1,1,none⟩=some b/\W.cell? ⟨w.heap.size+1+1,2,none⟩=some c2/\W.cell? ⟨w.heap.size+1+1,3,none⟩=some c/\W.cell? ⟨w.heap.size+1+1,4,none⟩=some d/\W.cell? ⟨w.heap.size+1+1,5,none⟩=some f/\W.cell? ⟨w.heap.size+1+1,6,none⟩=some g/\W.cell? ⟨w.heap.size+1+1,7,none⟩=some i:=by subst h;refine⟨?_,?_,?_,?_,?_,?_,?_,?_⟩<;>simp[go_sem]
theorem alf3v0v1 {w W:World} {a b c2:Value} {T:TypeId} (h:(w.alloc (.cells #[a,b,c2] T))=W):W.frozen? ⟨w.heap.size,0,none⟩=false/\W.frozen? ⟨w.heap.size,1,none⟩=false/\W.frozen? ⟨w.heap.size,2,none⟩=false:=by subst h;refine⟨?_,?_,?_⟩<;>simp[go_sem]
theorem alf3v0v2 {w W:World} {a:Obj} {b c c2:Value} {T:TypeId} (h:((w.alloc (.cells #[b,c,c2] T)).alloc a)=W):W.frozen? ⟨w.heap.size,0,none⟩=false/\W.frozen? ⟨w.heap.size,1,none⟩=false/\W.frozen? ⟨w.heap.size,2,none⟩=false:=by subst h;refine⟨?_,?_,?_⟩<;>simp[go_sem]
theorem alf3v1v2 {w W:World} {a:Obj} {b c c2:Value} {T:TypeId} (h:((w.alloc a).alloc (.cells #[b,c,c2] T))=W):W.frozen? ⟨w.heap.size+1,0,none⟩=false/\W.frozen? ⟨w.heap.size+1,1,none⟩=false/\W.frozen? ⟨w.heap.size+1,2,none⟩=false:=by subst h;refine⟨?_,?_,?_⟩<;>simp[go_sem]
theorem alf3v2v3 {w W:World} {a b:Obj} {c d c2:Value} {T:TypeId} (h:(((w.alloc a).alloc b).alloc (.cells #[c,d,c2] T))=W):W.frozen? ⟨w.heap.size+1+1,0,none⟩=false/\W.frozen? ⟨w.heap.size+1+1,1,none⟩=false/\W.frozen? ⟨w.heap.size+1+1,2,none⟩=false:=by subst h;refine⟨?_,?_,?_⟩<;>simp[go_sem]
theorem alf5v1v2 {w W:World} {a:Obj} {b c c2 d f:Value} {T:TypeId} (h:((w.alloc a).alloc (.cells #[b,c,c2,d,f] T))=W):W.frozen? ⟨w.heap.size+1,0,none⟩=false/\W.frozen? ⟨w.heap.size+1,1,none⟩=false/\W.frozen? ⟨w.heap.size+1,2,none⟩=false/\W.frozen? ⟨w.heap.size+1,3,none⟩=false/\W.frozen? ⟨w.heap.size+1,4,none⟩=false:=by subst h;refine⟨?_,?_,?_,?_,?_⟩<;>simp[go_sem]
theorem alf5v2v3 {w W:World} {a b:Obj} {c d c2 f g:Value} {T:TypeId} (h:(((w.alloc a).alloc b).alloc (.cells #[c,d,c2,f,g] T))=W):W.frozen? ⟨w.heap.size+1+1,0,none⟩=false/\W.frozen? ⟨w.heap.size+1+1,1,none⟩=false/\W.frozen? ⟨w.heap.size+1+1,2,none⟩=false/\W.frozen? ⟨w.heap.size+1+1,3,none⟩=false/\W.frozen? ⟨w.heap.size+1+1,4,none⟩=false:=by subst h;refine⟨?_,?_,?_,?_,?_⟩<;>simp[go_sem]
theorem alf7v0v1 {w W:World} {a b c2 c d f g:Value} {T:TypeId} (h:(w.alloc (.cells #[a,b,c2,c,d,f,g] T))=W):W.frozen? ⟨w.heap.size,0,none⟩=false/\W.frozen? ⟨w.heap.size,1,none⟩=false/\W.frozen? ⟨w.heap.size,2,none⟩=false/\W.frozen? ⟨w.heap.size,3,none⟩=false/\W.frozen? ⟨w.heap.size,4,none⟩=false/\W.frozen? ⟨w.heap.size,5,none⟩=false/\W.frozen? ⟨w.heap.size,6,none⟩=false:=by subst h;refine⟨?_,?_,?_,?_,?_,?_,?_⟩<;>simp[go_sem]
theorem alf7v1v2 {w W:World} {a:Obj} {b c c2 d f g i:Value} {T:TypeId} (h:((w.alloc a).alloc (.cells #[b,c,c2,d,f,g,i] T))=W):W.frozen? ⟨w.heap.size+1,0,none⟩=false/\W.frozen? ⟨w.heap.size+1,1,none⟩=false/\W.frozen? ⟨w.heap.size+1,2,none⟩=false/\W.frozen? ⟨w.heap.size+1,3,none⟩=false/\W.frozen? ⟨w.heap.size+1,4,none⟩=false/\W.frozen? ⟨w.heap.size+1,5,none⟩=false/\W.frozen? ⟨w.heap.size+1,6,none⟩=false:=by subst h;refine⟨?_,?_,?_,?_,?_,?_,?_⟩<;>simp[go_sem]
theorem alf7v2v3 {w W:World} {a b:Obj} {c d c2 f g i j:Value} {T:TypeId} (h:(((w.alloc a).alloc b).alloc (.cells #[c,d,c2,f,g,i,j] T))=W):W.frozen? ⟨w.heap.size+1+1,0,none⟩=false/\W.frozen? ⟨w.heap.size+1+1,1,none⟩=false/\W.frozen? ⟨w.heap.size+1+1,2,none⟩=false/\W.frozen? ⟨w.heap.size+1+1,3,none⟩=false/\W.frozen? ⟨w.heap.size+1+1,4,none⟩=false/\W.frozen? ⟨w.heap.size+1+1,5,none⟩=false/\W.frozen? ⟨w.heap.size+1+1,6,none⟩=false:=by subst h;refine⟨?_,?_,?_,?_,?_,?_,?_⟩<;>simp[go_sem]
theorem alf8v2v3 {w W:World} {a b:Obj} {c d c2 f g i j k:Value} {T:TypeId} (h:(((w.alloc a).alloc b).alloc (.cells #[c,d,c2,f,g,i,j,k] T))=W):W.frozen? ⟨w.heap.size+1+1,0,none⟩=false/\W.frozen? ⟨w.heap.size+1+1,1,none⟩=false/\W.frozen? ⟨w.heap.size+1+1,2,none⟩=false/\W.frozen? ⟨w.heap.size+1+1,3,none⟩=false/\W.frozen? ⟨w.heap.size+1+1,4,none⟩=false/\W.frozen? ⟨w.heap.size+1+1,5,none⟩=false/\W.frozen? ⟨w.heap.size+1+1,6,none⟩=false/\W.frozen? ⟨w.heap.size+1+1,7,none⟩=false:=by subst h;refine⟨?_,?_,?_,?_,?_,?_,?_,?_⟩<;>simp[go_sem]
theorem alb0v0v1 {w W:World} {O0:Obj} (h:(w.alloc O0)=W):Below w.heap.size w W:=by subst h;exact(KBq.alloc (Nat.le_refl _) _)
theorem alb0v0v2 {w W:World} {O0 O1:Obj} (h:((w.alloc O0).alloc O1)=W):Below w.heap.size w W:=by subst h;exact((KBq.alloc (Nat.le_refl _) _).alloc (by simp <;> omega) _)
theorem alb0v0v3 {w W:World} {a b c:Obj} (h:(((w.alloc a).alloc b).alloc c)=W):Below w.heap.size w W:=by subst h;exact(((KBq.alloc (Nat.le_refl _) _).alloc (by simp <;> omega) _).alloc (by simp <;> omega) _)
theorem alx0v0v1 {w W:World} {cs:Array Value} {T:TypeId} (a:(w.alloc (.cells cs T))=W):W.heap[w.heap.size]? =some (.cells cs T (0,0)):=by subst a;simp only[World.alloc,Array.getElem?_push];simp <;> omega
theorem alx0v0v2 {w W:World} {a:Obj} {cs:Array Value} {T:TypeId} (b:((w.alloc (.cells cs T)).alloc a)=W):W.heap[w.heap.size]? =some (.cells cs T (0,0)):=by subst b;simp only[World.alloc,Array.getElem?_push];simp <;> omega
theorem alx0v1v2 {w W:World} {a:Obj} {cs:Array Value} {T:TypeId} (b:((w.alloc a).alloc (.cells cs T))=W):W.heap[w.heap.size+1]? =some (.cells cs T (0,0)):=by subst b;simp only[World.alloc,Array.getElem?_push];simp <;> omega
theorem alx0v2v3 {w W:World} {a b:Obj} {cs:Array Value} {T:TypeId} (c:(((w.alloc a).alloc b).alloc (.cells cs T))=W):W.heap[w.heap.size+1+1]? =some (.cells cs T (0,0)):=by subst c;simp only[World.alloc,Array.getElem?_push];simp <;> omega
theorem alz0v0v1 {w W:World} {O0:Obj} (h:(w.alloc O0)=W):w.heap.size < W.heap.size:=by subst h;simp <;> omega
theorem alz0v0v2 {w W:World} {O0 O1:Obj} (h:((w.alloc O0).alloc O1)=W):w.heap.size < W.heap.size:=by subst h;simp <;> omega
theorem alz0v0v3 {w W:World} {O0 O1 O2:Obj} (h:(((w.alloc O0).alloc O1).alloc O2)=W):w.heap.size < W.heap.size:=by subst h;simp <;> omega
theorem alz0v1v2 {w W:World} {O0 O1:Obj} (h:((w.alloc O0).alloc O1)=W):w.heap.size+1 < W.heap.size:=by subst h;simp <;> omega
theorem alz0v1v3 {w W:World} {O0 O1 O2:Obj} (h:(((w.alloc O0).alloc O1).alloc O2)=W):w.heap.size+1 < W.heap.size:=by subst h;simp <;> omega
theorem alz0v2v3 {w W:World} {O0 O1 O2:Obj} (h:(((w.alloc O0).alloc O1).alloc O2)=W):w.heap.size+1+1 < W.heap.size:=by subst h;simp <;> omega
theorem bKq0v0v0 {C b j:Nat} {w w':World} {u:Value} (h:Below C w w') (hc:w.cell? ⟨b,j,none⟩=some u) (hz:b < C):w'.cell? ⟨b,j,none⟩=some u:=(h.cell (p:=⟨b,j,none⟩) hz).trans hc
theorem cxb5v0v0 {W:World} {B:Nat} {a b c d f:Value} {T:TypeId} (h:W.heap[B]? =some (.cells #[a,b,c,d,f] T (0,0))):W.cell? ⟨B,0,none⟩=some a/\W.cell? ⟨B,1,none⟩=some b/\W.cell? ⟨B,2,none⟩=some c/\W.cell? ⟨B,3,none⟩=some d/\W.cell? ⟨B,4,none⟩=some f:=by refine⟨?_,?_,?_,?_,?_⟩<;>simp[World.cell?,h]
theorem cxb7v0v0 {W:World} {B:Nat} {a b c d f g i:Value} {T:TypeId} (h:W.heap[B]? =some (.cells #[a,b,c,d,f,g,i] T (0,0))):W.cell? ⟨B,0,none⟩=some a/\W.cell? ⟨B,1,none⟩=some b/\W.cell? ⟨B,2,none⟩=some c/\W.cell? ⟨B,3,none⟩=some d/\W.cell? ⟨B,4,none⟩=some f/\W.cell? ⟨B,5,none⟩=some g/\W.cell? ⟨B,6,none⟩=some i:=by refine⟨?_,?_,?_,?_,?_,?_,?_⟩<;>simp[World.cell?,h]
theorem fxb5v0v0 {W:World} {B:Nat} {a b c d f:Value} {T:TypeId} (h:W.heap[B]? =some (.cells #[a,b,c,d,f] T (0,0))):W.frozen? ⟨B,0,none⟩=false/\W.frozen? ⟨B,1,none⟩=false/\W.frozen? ⟨B,2,none⟩=false/\W.frozen? ⟨B,3,none⟩=false/\W.frozen? ⟨B,4,none⟩=false:=by refine⟨?_,?_,?_,?_,?_⟩<;>simp[World.frozen?,h]
theorem fxb7v0v0 {W:World} {B:Nat} {a b c d f g i:Value} {T:TypeId} (h:W.heap[B]? =some (.cells #[a,b,c,d,f,g,i] T (0,0))):W.frozen? ⟨B,0,none⟩=false/\W.frozen? ⟨B,1,none⟩=false/\W.frozen? ⟨B,2,none⟩=false/\W.frozen? ⟨B,3,none⟩=false/\W.frozen? ⟨B,4,none⟩=false/\W.frozen? ⟨B,5,none⟩=false/\W.frozen? ⟨B,6,none⟩=false:=by refine⟨?_,?_,?_,?_,?_,?_,?_⟩<;>simp[World.frozen?,h]
theorem own:ownKnob Tryz.prog.godebug=none:=by kernel_rfl
theorem Qhb:laidOutB Tryz.prog=true:=by kernel_rfl
theorem Q3L {W a:World} (c:Below W.heap.size W a):(∀b o,b < W.heap.size->a.cell? ⟨b,o,none⟩=W.cell? ⟨b,o,none⟩)/\(∀b o,b < W.heap.size->a.frozen? ⟨b,o,none⟩=W.frozen? ⟨b,o,none⟩):=
 ⟨fun b o h=>c.cell (p:=⟨b,o,none⟩) h,fun b o h=>c.frozen (p:=⟨b,o,none⟩) h⟩
theorem Q08 {a b:Bool} (h:a=b):Ending.returned (.bool a)=.returned (.bool b):=by rw[h]
theorem Q0W {k:IntKind} {a b:Int} (h:a=b):Ending.returned (.int k a)=.returned (.int k b):=by rw[h]
theorem Q04 {w:World} {base a:Nat} {e:TypeId} {size:Nat} {v:Value} {n:Nat} {c:List Value} (h:w.ownsRow base e size v n c) (f:a<=base):w.ownsRow a e size v n c:=by
 obtain⟨d,h2⟩:=h;refine⟨d, ?_⟩
 rcases h2 with h2|⟨g,cap,b,hv,i,r⟩
 ·exact .inl h2
 ·exact .inr ⟨g,cap,b,hv,Kdq f i,r⟩
theorem Q3d {b:Bool} {P:Prop} (hi:b=true↔P) (h:¬P):false=b:=by cases b <;> simp_all
theorem Q02 {p:Prop} (h:p):Hid p:=h
def Q0o (a b:Int):Bool:=decide (0<=a) && decide (a < 65536) && decide (0<=b) && decide (b < 65536)
theorem Q2K {a b:Int}:Q0o a b=true↔0<=a/\a < 65536/\0<=b/\b < 65536:=by simp[Q0o,and_assoc]
def Q87 (a:Int):Bool:=decide (0<=a) && decide (a<=65535)
theorem Q98 (a b:Int):Q0o a b=(Q87 a && Q87 b):=by
 rw[Bool.eq_iff_iff];simp[Q0o,Q87];omega
theorem Q8l (a b:Int) (w:World):
  Calls Tryz.prog 44 #[.agg #[.int .i64 a,.int .i64 b]] w fun e d=>e=.returned (.bool (Q0o a b))/\Below w.heap.size w d:=by
 have c:Below w.heap.size w w:=KBq;go_enter Tryz.func44,Tryz.ntmps44;go_wp2
 all_goals go_ret
 all_goals refine⟨?_,by(repeat (first|with_reducible (first|exact c|exact KBq|refine KHq ?_|refine below_drewN ?_ _|refine KOq ?_ ?_ _|refine KNq ?_ ?_ _)|(focus (simp;first|done|omega))|omega))⟩
 all_goals first|(simp[Q0o, *];done)|(simp[Q0o];omega)
theorem Q0Z (a b:Int) (w:World):
  Calls Tryz.prog 53 #[.agg #[.int .i64 a,.int .i64 b]] w fun e d=>e=.returned (.bool (Q0o a b))/\Below w.heap.size w d:=by
 rw[Q98];have c:Below w.heap.size w w:=KBq;go_enter Tryz.func53,Tryz.ntmps53;go_wp2
 all_goals go_ret
 all_goals refine⟨?_,by(repeat (first|with_reducible (first|exact c|exact KBq|refine KHq ?_|refine below_drewN ?_ _|refine KOq ?_ ?_ _|refine KNq ?_ ?_ _)|(focus (simp;first|done|omega))|omega))⟩
 all_goals first|(simp[Q87, *];done)|(simp[Q87];omega)
def Q2Y (b f:Int):Bool:=decide (0<=b) && decide (b < 6) && decide (0<=f) && decide (f<=1)
theorem Qd5 {b f:Int}:Q2Y b f=true↔0<=b/\b < 6/\0<=f/\f<=1:=by simp[Q2Y,and_assoc]
theorem Q39 {b f:Int}:Q2Y b f=true↔(0<=b/\b < 6/\0<=f/\f<=1/\True):=by simp[Q2Y,and_assoc]
abbrev seg (b f:Int):Value:=.agg #[.int .i64 b,.int .i64 f]
theorem Q9f (b f:Int) (w:World):
  Calls Tryz.prog 107 #[seg b f] w fun e h=>e=.returned (.bool (Q2Y b f))/\Below w.heap.size w h:=by
 have c:Below w.heap.size w w:=KBq
 by_cases h1:0<=b
 ·by_cases h2:b < 6
  ·by_cases h3:0<=f
   ·by_cases h4:f<=1
    ·by_cases h7:f=0
     ·subst h7
      have d:=Q02 (show true=Q2Y b 0 by simp[Q2Y,h1,h2]);go_enter Tryz.func107,Tryz.ntmps107;go_wp2;go_ret;exact⟨Q08 d.out,by(repeat (first|with_reducible (first|exact c|exact KBq|refine KHq ?_|refine below_drewN ?_ _|refine KOq ?_ ?_ _|refine KNq ?_ ?_ _)|(focus (simp;first|done|omega))|omega))⟩
     ·have g:f=1:=by omega
      subst g;have d:=Q02 (show true=Q2Y b 1 by simp[Q2Y,h1,h2]);go_enter Tryz.func107,Tryz.ntmps107;go_wp2;go_ret;exact⟨Q08 d.out,by(repeat (first|with_reducible (first|exact c|exact KBq|refine KHq ?_|refine below_drewN ?_ _|refine KOq ?_ ?_ _|refine KNq ?_ ?_ _)|(focus (simp;first|done|omega))|omega))⟩
    ·have a:=Q02 (Q3d (Q39 (b:=b) (f:=f)) (fun q=>h4 q.2.2.2.1))
     go_enter Tryz.func107,Tryz.ntmps107;go_wp2
     all_goals go_ret
     all_goals refine⟨Q08 ?_,by(repeat (first|with_reducible (first|exact c|exact KBq|refine KHq ?_|refine below_drewN ?_ _|refine KOq ?_ ?_ _|refine KNq ?_ ?_ _)|(focus (simp;first|done|omega))|omega))⟩
     all_goals first|exact a.out|(rw[<-a.out];simp;omega)
   ·have a:=Q02 (Q3d (Q39 (b:=b) (f:=f)) (fun q=>h3 q.2.2.1))
    go_enter Tryz.func107,Tryz.ntmps107;go_wp2
    all_goals go_ret
    all_goals refine⟨Q08 ?_,by(repeat (first|with_reducible (first|exact c|exact KBq|refine KHq ?_|refine below_drewN ?_ _|refine KOq ?_ ?_ _|refine KNq ?_ ?_ _)|(focus (simp;first|done|omega))|omega))⟩
    all_goals first|exact a.out|(rw[<-a.out];simp;omega)
  ·have a:=Q02 (Q3d (Q39 (b:=b) (f:=f)) (fun q=>h2 q.2.1))
   go_enter Tryz.func107,Tryz.ntmps107;go_wp2
   all_goals go_ret
   all_goals refine⟨Q08 ?_,by(repeat (first|with_reducible (first|exact c|exact KBq|refine KHq ?_|refine below_drewN ?_ _|refine KOq ?_ ?_ _|refine KNq ?_ ?_ _)|(focus (simp;first|done|omega))|omega))⟩
   all_goals first|exact a.out|(rw[<-a.out];simp;omega)
 ·have a:=Q02 (Q3d (Q39 (b:=b) (f:=f)) (fun q=>h1 q.1))
  go_enter Tryz.func107,Tryz.ntmps107;go_wp2
  all_goals go_ret
  all_goals refine⟨Q08 ?_,by(repeat (first|with_reducible (first|exact c|exact KBq|refine KHq ?_|refine below_drewN ?_ _|refine KOq ?_ ?_ _|refine KNq ?_ ?_ _)|(focus (simp;first|done|omega))|omega))⟩
  all_goals first|exact a.out|(rw[<-a.out];simp;omega)
end Go.Proofs.YtpneolgdghbinaaGreat
