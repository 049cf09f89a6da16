/- Several texts in one: Base, SFlow, LFlow, SSeg, LSeg, ListedC. -/
import Derived.WalkKit
import Derived.ProofKit
import Derived.OpenShut
import Derived.Below
import Derived.OwnWalk
import Derived.Outline
import Derived.Lib.SmallJoins
import Derived.WalkLawsBesides
import Derived.Test.YteffhdcankkfkaaGreatRows
namespace Go.Proofs.YteffhdcankkfkaaGreat
open Go.ChangeShapes Go.WideShapes Go.ChangeAt Go.RowKit Go.Joins
set_option linter.unusedVariables false
set_option linter.unusedSimpArgs false
set_option maxRecDepth 100000
set_option maxHeartbeats 40000000
theorem KBq {n : Nat} {w : World} : Below n w w := Below.refl n w
theorem KEq {α : Type} {a : Array α} {i : Nat} {v : α} (h : a[i]? = some v) : i < a.size := (Array.getElem?_eq_some_iff.1 h).1
abbrev KFq := @List.getD_eq_getElem?_getD
abbrev KGq := @List.getElem?_eq_getElem
abbrev KHq := @Below.drew
abbrev KIq := @Nat.le_of_lt
abbrev KLq := @World.ownsRow_nil
abbrev KMq := @Nat.not_lt_zero
abbrev KNq := @Below.setCell
abbrev KOq := @Below.alloc
theorem Kaq (n : Nat) : n <= n := Nat.le_refl n
theorem Kbq {a b c : Nat} (h : a < b) (k : b <= c) : a < c := Nat.lt_of_lt_of_le h k
theorem Kcq (n : Nat) : 0 <= n := Nat.zero_le n
theorem Kdq {a b c : Nat} (h : a <= b) (k : b <= c) : a <= c := Nat.le_trans h k
theorem alc2v0v1 {w W:World} {a b:Value} {T:TypeId} (h:(w.alloc (.cells #[a,b] T))=W):W.cell? ⟨w.heap.size,0,none⟩=some a/\W.cell? ⟨w.heap.size,1,none⟩=some b:=by subst h;refine⟨?_,?_⟩<;>simp[go_sem]
theorem alc2v1v2 {w W:World} {c:Obj} {a b:Value} {T:TypeId} (h:((w.alloc c).alloc (.cells #[a,b] T))=W):W.cell? ⟨w.heap.size+1,0,none⟩=some a/\W.cell? ⟨w.heap.size+1,1,none⟩=some b:=by subst h;refine⟨?_,?_⟩<;>simp[go_sem]
theorem alc2v1v3 {w W:World} {c d:Obj} {a b:Value} {T:TypeId} (h:(((w.alloc c).alloc (.cells #[a,b] T)).alloc d)=W):W.cell? ⟨w.heap.size+1,0,none⟩=some a/\W.cell? ⟨w.heap.size+1,1,none⟩=some b:=by subst h;refine⟨?_,?_⟩<;>simp[go_sem]
theorem alc3v0v1 {w W:World} {a b c:Value} {T:TypeId} (h:(w.alloc (.cells #[a,b,c] T))=W):W.cell? ⟨w.heap.size,0,none⟩=some a/\W.cell? ⟨w.heap.size,1,none⟩=some b/\W.cell? ⟨w.heap.size,2,none⟩=some c:=by subst h;refine⟨?_,?_,?_⟩<;>simp[go_sem]
theorem alc3v0v2 {w W:World} {d:Obj} {a b c:Value} {T:TypeId} (h:((w.alloc (.cells #[a,b,c] T)).alloc d)=W):W.cell? ⟨w.heap.size,0,none⟩=some a/\W.cell? ⟨w.heap.size,1,none⟩=some b/\W.cell? ⟨w.heap.size,2,none⟩=some c:=by subst h;refine⟨?_,?_,?_⟩<;>simp[go_sem]
theorem alc3v0v3 {w W:World} {d f:Obj} {a b c:Value} {T:TypeId} (h:(((w.alloc (.cells #[a,b,c] T)).alloc d).alloc f)=W):W.cell? ⟨w.heap.size,0,none⟩=some a/\W.cell? ⟨w.heap.size,1,none⟩=some b/\W.cell? ⟨w.heap.size,2,none⟩=some c:=by subst h;refine⟨?_,?_,?_⟩<;>simp[go_sem]
theorem alc3v1v2 {w W:World} {d:Obj} {a b c:Value} {T:TypeId} (h:((w.alloc d).alloc (.cells #[a,b,c] T))=W):W.cell? ⟨w.heap.size+1,0,none⟩=some a/\W.cell? ⟨w.heap.size+1,1,none⟩=some b/\W.cell? ⟨w.heap.size+1,2,none⟩=some c:=by subst h;refine⟨?_,?_,?_⟩<;>simp[go_sem]
theorem alc3v1v3 {w W:World} {d f:Obj} {a b c:Value} {T:TypeId} (h:(((w.alloc d).alloc (.cells #[a,b,c] T)).alloc f)=W):W.cell? ⟨w.heap.size+1,0,none⟩=some a/\W.cell? ⟨w.heap.size+1,1,none⟩=some b/\W.cell? ⟨w.heap.size+1,2,none⟩=some c:=by subst h;refine⟨?_,?_,?_⟩<;>simp[go_sem]
theorem alc3v2v3 {w W:World} {d f:Obj} {a b c:Value} {T:TypeId} (h:(((w.alloc d).alloc f).alloc (.cells #[a,b,c] T))=W):W.cell? ⟨w.heap.size+1+1,0,none⟩=some a/\W.cell? ⟨w.heap.size+1+1,1,none⟩=some b/\W.cell? ⟨w.heap.size+1+1,2,none⟩=some c:=by subst h;refine⟨?_,?_,?_⟩<;>simp[go_sem]
theorem alc5v0v1 {w W:World} {a b c d f:Value} {T:TypeId} (h:(w.alloc (.cells #[a,b,c,d,f] T))=W):W.cell? ⟨w.heap.size,0,none⟩=some a/\W.cell? ⟨w.heap.size,1,none⟩=some b/\W.cell? ⟨w.heap.size,2,none⟩=some c/\W.cell? ⟨w.heap.size,3,none⟩=some d/\W.cell? ⟨w.heap.size,4,none⟩=some f:=by subst h;refine⟨?_,?_,?_,?_,?_⟩<;>simp[go_sem]
theorem alc5v0v2 {w W:World} {g:Obj} {a b c d f:Value} {T:TypeId} (h:((w.alloc (.cells #[a,b,c,d,f] T)).alloc g)=W):W.cell? ⟨w.heap.size,0,none⟩=some a/\W.cell? ⟨w.heap.size,1,none⟩=some b/\W.cell? ⟨w.heap.size,2,none⟩=some c/\W.cell? ⟨w.heap.size,3,none⟩=some d/\W.cell? ⟨w.heap.size,4,none⟩=some f:=by subst h;refine⟨?_,?_,?_,?_,?_⟩<;>simp[go_sem]
theorem alc5v0v3 {w W:World} {g i:Obj} {a b c d f:Value} {T:TypeId} (h:(((w.alloc (.cells #[a,b,c,d,f] T)).alloc g).alloc i)=W):W.cell? ⟨w.heap.size,0,none⟩=some a/\W.cell? ⟨w.heap.size,1,none⟩=some b/\W.cell? ⟨w.heap.size,2,none⟩=some c/\W.cell? ⟨w.heap.size,3,none⟩=some d/\W.cell? ⟨w.heap.size,4,none⟩=some f:=by subst h;refine⟨?_,?_,?_,?_,?_⟩<;>simp[go_sem]
theorem alc5v1v2 {w W:World} {g:Obj} {a b c d f:Value} {T:TypeId} (h:((w.alloc g).alloc (.cells #[a,b,c,d,f] T))=W):W.cell? ⟨w.heap.size+1,0,none⟩=some a/\W.cell? ⟨w.heap.size+1,1,none⟩=some b/\W.cell? ⟨w.heap.size+1,2,none⟩=some c/\W.cell? ⟨w.heap.size+1,3,none⟩=some d/\W.cell? ⟨w.heap.size+1,4,none⟩=some f:=by subst h;refine⟨?_,?_,?_,?_,?_⟩<;>simp[go_sem]
theorem alc5v1v3 {w W:World} {g i:Obj} {a b c d f:Value} {T:TypeId} (h:(((w.alloc g).alloc (.cells #[a,b,c,d,f] T)).alloc i)=W):W.cell? ⟨w.heap.size+1,0,none⟩=some a/\W.cell? ⟨w.heap.size+1,1,none⟩=some b/\W.cell? ⟨w.heap.size+1,2,none⟩=some c/\W.cell? ⟨w.heap.size+1,3,none⟩=some d/\W.cell? ⟨w.heap.size+1,4,none⟩=some f:=by subst h;refine⟨?_,?_,?_,?_,?_⟩<;>simp[go_sem]
theorem alc5v2v3 {w W:World} {g i:Obj} {a b c d f:Value} {T:TypeId} (h:(((w.alloc g).alloc i).alloc (.cells #[a,b,c,d,f] T))=W):W.cell? ⟨w.heap.size+1+1,0,none⟩=some a/\W.cell? ⟨w.heap.size+1+1,1,none⟩=some b/\W.cell? ⟨w.heap.size+1+1,2,none⟩=some c/\W.cell? ⟨w.heap.size+1+1,3,none⟩=some d/\W.cell? ⟨w.heap.size+1+1,4,none⟩=some f:=by subst h;refine⟨?_,?_,?_,?_,?_⟩<;>simp[go_sem]
theorem alc7v0v1 {w W:World} {a b c d f g i:Value} {T:TypeId} (h:(w.alloc (.cells #[a,b,c,d,f,g,i] T))=W):W.cell? ⟨w.heap.size,0,none⟩=some a/\W.cell? ⟨w.heap.size,1,none⟩=some b/\W.cell? ⟨w.heap.size,2,none⟩=some c/\W.cell? ⟨w.heap.size,3,none⟩=some d/\W.cell? ⟨w.heap.size,4,none⟩=some f/\W.cell? ⟨w.heap.size,5,none⟩=some g/\W.cell? ⟨w.heap.size,6,none⟩=some i:=by subst h;refine⟨?_,?_,?_,?_,?_,?_,?_⟩<;>simp[go_sem]
theorem alc7v0v2 {w W:World} {j:Obj} {a b c d f g i:Value} {T:TypeId} (h:((w.alloc (.cells #[a,b,c,d,f,g,i] T)).alloc j)=W):W.cell? ⟨w.heap.size,0,none⟩=some a/\W.cell? ⟨w.heap.size,1,none⟩=some b/\W.cell? ⟨w.heap.size,2,none⟩=some c/\W.cell? ⟨w.heap.size,3,none⟩=some d/\W.cell? ⟨w.heap.size,4,none⟩=some f/\W.cell? ⟨w.heap.size,5,none⟩=some g/\W.cell? ⟨w.heap.size,6,none⟩=some i:=by subst h;refine⟨?_,?_,?_,?_,?_,?_,?_⟩<;>simp[go_sem]
theorem alc7v0v3 {w W:World} {j k:Obj} {a b c d f g i:Value} {T:TypeId} (h:(((w.alloc (.cells #[a,b,c,d,f,g,i] T)).alloc j).alloc k)=W):W.cell? ⟨w.heap.size,0,none⟩=some a/\W.cell? ⟨w.heap.size,1,none⟩=some b/\W.cell? ⟨w.heap.size,2,none⟩=some c/\W.cell? ⟨w.heap.size,3,none⟩=some d/\W.cell? ⟨w.heap.size,4,none⟩=some f/\W.cell? ⟨w.heap.size,5,none⟩=some g/\W.cell? ⟨w.heap.size,6,none⟩=some i:=by subst h;refine⟨?_,?_,?_,?_,?_,?_,?_⟩<;>simp[go_sem]
theorem alc7v1v2 {w W:World} {j:Obj} {a b c d f g i:Value} {T:TypeId} (h:((w.alloc j).alloc (.cells #[a,b,c,d,f,g,i] T))=W):W.cell? ⟨w.heap.size+1,0,none⟩=some a/\W.cell? ⟨w.heap.size+1,1,none⟩=some b/\W.cell? ⟨w.heap.size+1,2,none⟩=some c/\W.cell? ⟨w.heap.size+1,3,none⟩=some d/\W.cell? ⟨w.heap.size+1,4,none⟩=some f/\W.cell? ⟨w.heap.size+1,5,none⟩=some g/\W.cell? ⟨w.heap.size+1,6,none⟩=some i:=by subst h;refine⟨?_,?_,?_,?_,?_,?_,?_⟩<;>simp[go_sem]
theorem alc12v0v1 {w W:World} {c d f g i j k l m n a b:Value} {T:TypeId} (h:(w.alloc (.cells #[c,d,f,g,i,j,k,l,m,n,a,b] T))=W):W.cell? ⟨w.heap.size,0,none⟩=some c/\W.cell? ⟨w.heap.size,1,none⟩=some d/\W.cell? ⟨w.heap.size,2,none⟩=some f/\W.cell? ⟨w.heap.size,3,none⟩=some g/\W.cell? ⟨w.heap.size,4,none⟩=some i/\W.cell? ⟨w.heap.size,5,none⟩=some j/\W.cell? ⟨w.heap.size,6,none⟩=some k/\W.cell? ⟨w.heap.size,7,none⟩=some l/\W.cell? ⟨w.heap.size,8,none⟩=some m/\W.cell? ⟨w.heap.size,9,none⟩=some n/\W.cell? ⟨w.heap.size,10,none⟩=some a/\W.cell? ⟨w.heap.size,11,none⟩=some b:=by subst h;refine⟨?_,?_,?_,?_,?_,?_,?_,?_,?_,?_,?_,?_⟩<;>simp[go_sem]
theorem alf3v0v1 {w W:World} {a b c:Value} {T:TypeId} (h:(w.alloc (.cells #[a,b,c] T))=W):W.frozen? ⟨w.heap.size,0,none⟩=false/\W.frozen? ⟨w.heap.size,1,none⟩=false/\W.frozen? ⟨w.heap.size,2,none⟩=false:=by subst h;refine⟨?_,?_,?_⟩<;>simp[go_sem]
theorem alf3v0v2 {w W:World} {a:Obj} {b c d:Value} {T:TypeId} (h:((w.alloc (.cells #[b,c,d] T)).alloc a)=W):W.frozen? ⟨w.heap.size,0,none⟩=false/\W.frozen? ⟨w.heap.size,1,none⟩=false/\W.frozen? ⟨w.heap.size,2,none⟩=false:=by subst h;refine⟨?_,?_,?_⟩<;>simp[go_sem]
theorem alf3v1v2 {w W:World} {a:Obj} {b c d:Value} {T:TypeId} (h:((w.alloc a).alloc (.cells #[b,c,d] T))=W):W.frozen? ⟨w.heap.size+1,0,none⟩=false/\W.frozen? ⟨w.heap.size+1,1,none⟩=false/\W.frozen? ⟨w.heap.size+1,2,none⟩=false:=by subst h;refine⟨?_,?_,?_⟩<;>simp[go_sem]
theorem alf3v1v3 {w W:World} {a b:Obj} {c d f:Value} {T:TypeId} (h:(((w.alloc a).alloc (.cells #[c,d,f] T)).alloc b)=W):W.frozen? ⟨w.heap.size+1,0,none⟩=false/\W.frozen? ⟨w.heap.size+1,1,none⟩=false/\W.frozen? ⟨w.heap.size+1,2,none⟩=false:=by subst h;refine⟨?_,?_,?_⟩<;>simp[go_sem]
theorem alf3v2v3 {w W:World} {a b:Obj} {c d f:Value} {T:TypeId} (h:(((w.alloc a).alloc b).alloc (.cells #[c,d,f] T))=W):W.frozen? ⟨w.heap.size+1+1,0,none⟩=false/\W.frozen? ⟨w.heap.size+1+1,1,none⟩=false/\W.frozen? ⟨w.heap.size+1+1,2,none⟩=false:=by subst h;refine⟨?_,?_,?_⟩<;>simp[go_sem]
theorem alf5v1v2 {w W:World} {a:Obj} {b c d f g:Value} {T:TypeId} (h:((w.alloc a).alloc (.cells #[b,c,d,f,g] T))=W):W.frozen? ⟨w.heap.size+1,0,none⟩=false/\W.frozen? ⟨w.heap.size+1,1,none⟩=false/\W.frozen? ⟨w.heap.size+1,2,none⟩=false/\W.frozen? ⟨w.heap.size+1,3,none⟩=false/\W.frozen? ⟨w.heap.size+1,4,none⟩=false:=by subst h;refine⟨?_,?_,?_,?_,?_⟩<;>simp[go_sem]
theorem alf5v1v3 {w W:World} {a b:Obj} {c d f g i:Value} {T:TypeId} (h:(((w.alloc a).alloc (.cells #[c,d,f,g,i] T)).alloc b)=W):W.frozen? ⟨w.heap.size+1,0,none⟩=false/\W.frozen? ⟨w.heap.size+1,1,none⟩=false/\W.frozen? ⟨w.heap.size+1,2,none⟩=false/\W.frozen? ⟨w.heap.size+1,3,none⟩=false/\W.frozen? ⟨w.heap.size+1,4,none⟩=false:=by subst h;refine⟨?_,?_,?_,?_,?_⟩<;>simp[go_sem]
theorem alf5v2v3 {w W:World} {a b:Obj} {c d f g i:Value} {T:TypeId} (h:(((w.alloc a).alloc b).alloc (.cells #[c,d,f,g,i] T))=W):W.frozen? ⟨w.heap.size+1+1,0,none⟩=false/\W.frozen? ⟨w.heap.size+1+1,1,none⟩=false/\W.frozen? ⟨w.heap.size+1+1,2,none⟩=false/\W.frozen? ⟨w.heap.size+1+1,3,none⟩=false/\W.frozen? ⟨w.heap.size+1+1,4,none⟩=false:=by subst h;refine⟨?_,?_,?_,?_,?_⟩<;>simp[go_sem]
theorem alf7v1v2 {w W:World} {a:Obj} {b c d f g i j:Value} {T:TypeId} (h:((w.alloc a).alloc (.cells #[b,c,d,f,g,i,j] T))=W):W.frozen? ⟨w.heap.size+1,0,none⟩=false/\W.frozen? ⟨w.heap.size+1,1,none⟩=false/\W.frozen? ⟨w.heap.size+1,2,none⟩=false/\W.frozen? ⟨w.heap.size+1,3,none⟩=false/\W.frozen? ⟨w.heap.size+1,4,none⟩=false/\W.frozen? ⟨w.heap.size+1,5,none⟩=false/\W.frozen? ⟨w.heap.size+1,6,none⟩=false:=by subst h;refine⟨?_,?_,?_,?_,?_,?_,?_⟩<;>simp[go_sem]
theorem alb0v0v1 {w W:World} {O0:Obj} (h:(w.alloc O0)=W):Below w.heap.size w W:=by subst h;exact(KBq.alloc (Nat.le_refl _) _)
theorem alb0v0v2 {w W:World} {O0 O1:Obj} (h:((w.alloc O0).alloc O1)=W):Below w.heap.size w W:=by subst h;exact((KBq.alloc (Nat.le_refl _) _).alloc (by simp <;> omega) _)
theorem alb0v0v3 {w W:World} {a b c:Obj} (h:(((w.alloc a).alloc b).alloc c)=W):Below w.heap.size w W:=by subst h;exact(((KBq.alloc (Nat.le_refl _) _).alloc (by simp <;> omega) _).alloc (by simp <;> omega) _)
theorem alx0v0v1 {w W:World} {cs:Array Value} {T:TypeId} (a:(w.alloc (.cells cs T))=W):W.heap[w.heap.size]? =some (.cells cs T (0,0)):=by subst a;simp only[World.alloc,Array.getElem?_push];simp <;> omega
theorem alx0v0v3 {w W:World} {a b:Obj} {cs:Array Value} {T:TypeId} (c:(((w.alloc (.cells cs T)).alloc a).alloc b)=W):W.heap[w.heap.size]? =some (.cells cs T (0,0)):=by subst c;simp only[World.alloc,Array.getElem?_push];simp <;> omega
theorem alx0v1v3 {w W:World} {a b:Obj} {cs:Array Value} {T:TypeId} (c:(((w.alloc a).alloc (.cells cs T)).alloc b)=W):W.heap[w.heap.size+1]? =some (.cells cs T (0,0)):=by subst c;simp only[World.alloc,Array.getElem?_push];simp <;> omega
theorem alx0v2v3 {w W:World} {a b:Obj} {cs:Array Value} {T:TypeId} (c:(((w.alloc a).alloc b).alloc (.cells cs T))=W):W.heap[w.heap.size+1+1]? =some (.cells cs T (0,0)):=by subst c;simp only[World.alloc,Array.getElem?_push];simp <;> omega
theorem alz0v0v1 {w W:World} {O0:Obj} (h:(w.alloc O0)=W):w.heap.size < W.heap.size:=by subst h;simp <;> omega
theorem alz0v0v2 {w W:World} {O0 O1:Obj} (h:((w.alloc O0).alloc O1)=W):w.heap.size < W.heap.size:=by subst h;simp <;> omega
theorem alz0v0v3 {w W:World} {O0 O1 O2:Obj} (h:(((w.alloc O0).alloc O1).alloc O2)=W):w.heap.size < W.heap.size:=by subst h;simp <;> omega
theorem alz0v1v2 {w W:World} {O0 O1:Obj} (h:((w.alloc O0).alloc O1)=W):w.heap.size+1 < W.heap.size:=by subst h;simp <;> omega
theorem alz0v1v3 {w W:World} {O0 O1 O2:Obj} (h:(((w.alloc O0).alloc O1).alloc O2)=W):w.heap.size+1 < W.heap.size:=by subst h;simp <;> omega
theorem alz0v2v3 {w W:World} {O0 O1 O2:Obj} (h:(((w.alloc O0).alloc O1).alloc O2)=W):w.heap.size+1+1 < W.heap.size:=by subst h;simp <;> omega
theorem bKq0v0v0 {C b j:Nat} {w w':World} {u:Value} (h:Below C w w') (hc:w.cell? ⟨b,j,none⟩=some u) (hz:b < C):w'.cell? ⟨b,j,none⟩=some u:=(h.cell (p:=⟨b,j,none⟩) hz).trans hc
theorem cxb5v0v0 {W:World} {B:Nat} {a b c d f:Value} {T:TypeId} (h:W.heap[B]? =some (.cells #[a,b,c,d,f] T (0,0))):W.cell? ⟨B,0,none⟩=some a/\W.cell? ⟨B,1,none⟩=some b/\W.cell? ⟨B,2,none⟩=some c/\W.cell? ⟨B,3,none⟩=some d/\W.cell? ⟨B,4,none⟩=some f:=by refine⟨?_,?_,?_,?_,?_⟩<;>simp[World.cell?,h]
theorem cxb7v0v0 {W:World} {B:Nat} {a b c d f g i:Value} {T:TypeId} (h:W.heap[B]? =some (.cells #[a,b,c,d,f,g,i] T (0,0))):W.cell? ⟨B,0,none⟩=some a/\W.cell? ⟨B,1,none⟩=some b/\W.cell? ⟨B,2,none⟩=some c/\W.cell? ⟨B,3,none⟩=some d/\W.cell? ⟨B,4,none⟩=some f/\W.cell? ⟨B,5,none⟩=some g/\W.cell? ⟨B,6,none⟩=some i:=by refine⟨?_,?_,?_,?_,?_,?_,?_⟩<;>simp[World.cell?,h]
theorem cxb8v0v0 {W:World} {B:Nat} {a b c d f g i j:Value} {T:TypeId} (h:W.heap[B]? =some (.cells #[a,b,c,d,f,g,i,j] T (0,0))):W.cell? ⟨B,0,none⟩=some a/\W.cell? ⟨B,1,none⟩=some b/\W.cell? ⟨B,2,none⟩=some c/\W.cell? ⟨B,3,none⟩=some d/\W.cell? ⟨B,4,none⟩=some f/\W.cell? ⟨B,5,none⟩=some g/\W.cell? ⟨B,6,none⟩=some i/\W.cell? ⟨B,7,none⟩=some j:=by refine⟨?_,?_,?_,?_,?_,?_,?_,?_⟩<;>simp[World.cell?,h]
theorem fxb7v0v0 {W:World} {B:Nat} {a b c d f g i:Value} {T:TypeId} (h:W.heap[B]? =some (.cells #[a,b,c,d,f,g,i] T (0,0))):W.frozen? ⟨B,0,none⟩=false/\W.frozen? ⟨B,1,none⟩=false/\W.frozen? ⟨B,2,none⟩=false/\W.frozen? ⟨B,3,none⟩=false/\W.frozen? ⟨B,4,none⟩=false/\W.frozen? ⟨B,5,none⟩=false/\W.frozen? ⟨B,6,none⟩=false:=by refine⟨?_,?_,?_,?_,?_,?_,?_⟩<;>simp[World.frozen?,h]
theorem own:ownKnob Tryz.prog.godebug=none:=by kernel_rfl
theorem QeE:laidOutB Tryz.prog=true:=by kernel_rfl
theorem Q0F {W a:World} (c:Below W.heap.size W a):(∀b o,b < W.heap.size->a.cell? ⟨b,o,none⟩=W.cell? ⟨b,o,none⟩)/\(∀b o,b < W.heap.size->a.frozen? ⟨b,o,none⟩=W.frozen? ⟨b,o,none⟩):=
 ⟨fun b o h=>c.cell (p:=⟨b,o,none⟩) h,fun b o h=>c.frozen (p:=⟨b,o,none⟩) h⟩
theorem Q03 {a b:Bool} (h:a=b):Ending.returned (.bool a)=.returned (.bool b):=by rw[h]
theorem Q0O {k:IntKind} {a b:Int} (h:a=b):Ending.returned (.int k a)=.returned (.int k b):=by rw[h]
theorem Q06 {w:World} {base a:Nat} {e:TypeId} {size:Nat} {v:Value} {n:Nat} {xs:List Value} (h:w.ownsRow base e size v n xs) (d:a<=base):w.ownsRow a e size v n xs:=by
 obtain⟨c,h2⟩:=h;refine⟨c, ?_⟩
 rcases h2 with h2|⟨g,cap,b,hv,f,r⟩
 ·exact .inl h2
 ·exact .inr ⟨g,cap,b,hv,Kdq d f,r⟩
theorem Q13 {b:Bool} {P:Prop} (hi:b=true↔P) (h:¬P):false=b:=by cases b <;> simp_all
theorem Q00 {p:Prop} (h:p):Hid p:=h
def Q0g (a b:Int):Bool:=decide (0<=a) && decide (a < 65536) && decide (0<=b) && decide (b < 65536)
theorem Q2t {a b:Int}:Q0g a b=true↔0<=a/\a < 65536/\0<=b/\b < 65536:=by simp[Q0g,and_assoc]
def Q6H (a:Int):Bool:=decide (0<=a) && decide (a<=65535)
theorem Q8i (a b:Int):Q0g a b=(Q6H a && Q6H b):=by
 rw[Bool.eq_iff_iff];simp[Q0g,Q6H];omega
theorem Q0s (a b:Int) (w:World):
  Calls Tryz.prog 64 #[.agg #[.int .i64 a,.int .i64 b]] w fun e d=>e=.returned (.bool (Q0g a b))/\Below w.heap.size w d:=by
 have c:Below w.heap.size w w:=KBq;go_enter Tryz.func64,Tryz.ntmps64;go_wp2
 all_goals go_ret
 all_goals refine⟨?_,by(repeat (first|with_reducible (first|exact c|exact KBq|refine KHq ?_|refine below_drewN ?_ _|refine KOq ?_ ?_ _|refine KNq ?_ ?_ _)|(focus (simp;first|done|omega))|omega))⟩
 all_goals first|(simp[Q0g, *];done)|(simp[Q0g];omega)
theorem Q0v (a b:Int) (w:World):
  Calls Tryz.prog 66 #[.agg #[.int .i64 a,.int .i64 b]] w fun e d=>e=.returned (.bool (Q0g a b))/\Below w.heap.size w d:=by
 rw[Q8i];have c:Below w.heap.size w w:=KBq;go_enter Tryz.func66,Tryz.ntmps66;go_wp2
 all_goals go_ret
 all_goals refine⟨?_,by(repeat (first|with_reducible (first|exact c|exact KBq|refine KHq ?_|refine below_drewN ?_ _|refine KOq ?_ ?_ _|refine KNq ?_ ?_ _)|(focus (simp;first|done|omega))|omega))⟩
 all_goals first|(simp[Q6H, *];done)|(simp[Q6H];omega)
theorem Q1L:Tryz.prog.cellsOf 71=2:=by kernel_rfl
theorem Qe2 {H:Type} {enc:TypeId × Value->H} {W:World} {base:Nat} {v:Value} {d:DataW H} {p:List MemPlace}
  (hv:Value.okWide Tryz.prog W .any base 71 v) (h:DataW.Trod enc Tryz.prog W 0 (fun _=>true) true 71 v d p):
  ∃a b:Int,v=.agg #[.int .i64 a,.int .i64 b]:=by
 obtain⟨j,k,q,r,m,rfl,rfl,rfl,c,f⟩:=open_agg2 Tryz.underlying71 (by kernel_rfl) Q1L hv h;obtain⟨a,g,rfl,l⟩:=DataW.trod_int Tryz.underlying3 c;obtain⟨b,i,rfl,n⟩:=DataW.trod_int Tryz.underlying3 f;simp at g i;subst g i;exact⟨a,b,rfl⟩
theorem Q1T (a b:Int) (w:World):
  Calls Tryz.prog 25 #[.agg #[.int .i64 a,.int .i64 b]] w fun e d=>e=.returned (.agg #[.int .i64 a,.int .i64 b])/\Below w.heap.size w d:=by
 have c:Below w.heap.size w w:=KBq;go_enter Tryz.func25,Tryz.ntmps25;go_wp2;refine bodyPost_ret (v:=.agg #[.int .i64 a,.int .i64 b]) (by simp[results,Tryz.results25,go_sem]) rfl ⟨rfl, ?_⟩
 (repeat (first|with_reducible (first|exact c|exact KBq|refine KHq ?_|refine below_drewN ?_ _|refine KOq ?_ ?_ _|refine KNq ?_ ?_ _)|(focus (simp;first|done|omega))|omega))
theorem QdO (a b c d:Int) (w:World):
  Calls Tryz.prog 142 #[.agg #[.int .i64 a,.int .i64 b],.agg #[.int .i64 c,.int .i64 d]] w fun e g=>e=.returned (.bool (decide (a=c/\b=d)))/\Below w.heap.size w g:=by
 have f:Below w.heap.size w w:=KBq;go_enter Tryz.func142,Tryz.ntmps142;go_wp2
 all_goals go_ret
 all_goals refine⟨?_,by(repeat (first|with_reducible (first|exact f|exact KBq|refine KHq ?_|refine below_drewN ?_ _|refine KOq ?_ ?_ _|refine KNq ?_ ?_ _)|(focus (simp;first|done|omega))|omega))⟩
 all_goals (simp_all)
theorem Q33 (a b:Int) (w:World):
  Calls Tryz.prog 142 #[.agg #[.int .i64 a,.int .i64 b],.agg #[.int .i64 a,.int .i64 b]] w fun e c=>e=.returned (.bool true)/\Below w.heap.size w c:=by
 have:=QdO a b a b w
 simpa using this
def Q1s (b f:Int):Bool:=decide (0<=b) && decide (b < 6) && decide (0<=f) && decide (f<=1)
theorem Q7M {b f:Int}:Q1s b f=true↔0<=b/\b < 6/\0<=f/\f<=1:=by simp[Q1s,and_assoc]
theorem Q2C {b f:Int}:Q1s b f=true↔(0<=b/\b < 6/\0<=f/\f<=1/\True):=by simp[Q1s,and_assoc]
abbrev seg (b f:Int):Value:=.agg #[.int .i64 b,.int .i64 f]
theorem Q8o (b f:Int) (w:World):
  Calls Tryz.prog 180 #[seg b f] w fun e c=>e=.returned (.bool (Q1s b f))/\Below w.heap.size w c:=by
 have a:Below w.heap.size w w:=KBq;go_enter Tryz.func180,Tryz.ntmps180;go_wp2
 all_goals go_ret
 all_goals refine⟨?_,by(repeat (first|with_reducible (first|exact a|exact KBq|refine KHq ?_|refine below_drewN ?_ _|refine KOq ?_ ?_ _|refine KNq ?_ ?_ _)|(focus (simp;first|done|omega))|omega))⟩
 all_goals first|(simp[Q1s, *];done)|(simp[Q1s];omega)
theorem Q8k (b f:Int) (w:World):
  Calls Tryz.prog 262 #[seg b f] w fun e h=>e=.returned (.bool (Q1s b f))/\Below w.heap.size w h:=by
 have c:Below w.heap.size w w:=KBq
 by_cases h1:0<=b
 ·by_cases h2:b < 6
  ·by_cases h3:0<=f
   ·by_cases h4:f<=1
    ·by_cases h7:f=0
     ·subst h7
      have d:=Q00 (show true=Q1s b 0 by simp[Q1s,h1,h2]);go_enter Tryz.func262,Tryz.ntmps262;go_wp2;go_ret;exact⟨Q03 d.out,by(repeat (first|with_reducible (first|exact c|exact KBq|refine KHq ?_|refine below_drewN ?_ _|refine KOq ?_ ?_ _|refine KNq ?_ ?_ _)|(focus (simp;first|done|omega))|omega))⟩
     ·have g:f=1:=by omega
      subst g;have d:=Q00 (show true=Q1s b 1 by simp[Q1s,h1,h2]);go_enter Tryz.func262,Tryz.ntmps262;go_wp2;go_ret;exact⟨Q03 d.out,by(repeat (first|with_reducible (first|exact c|exact KBq|refine KHq ?_|refine below_drewN ?_ _|refine KOq ?_ ?_ _|refine KNq ?_ ?_ _)|(focus (simp;first|done|omega))|omega))⟩
    ·have a:=Q00 (Q13 (Q2C (b:=b) (f:=f)) (fun q=>h4 q.2.2.2.1))
     go_enter Tryz.func262,Tryz.ntmps262;go_wp2
     all_goals go_ret
     all_goals refine⟨Q03 ?_,by(repeat (first|with_reducible (first|exact c|exact KBq|refine KHq ?_|refine below_drewN ?_ _|refine KOq ?_ ?_ _|refine KNq ?_ ?_ _)|(focus (simp;first|done|omega))|omega))⟩
     all_goals first|exact a.out|(rw[<-a.out];simp;omega)
   ·have a:=Q00 (Q13 (Q2C (b:=b) (f:=f)) (fun q=>h3 q.2.2.1))
    go_enter Tryz.func262,Tryz.ntmps262;go_wp2
    all_goals go_ret
    all_goals refine⟨Q03 ?_,by(repeat (first|with_reducible (first|exact c|exact KBq|refine KHq ?_|refine below_drewN ?_ _|refine KOq ?_ ?_ _|refine KNq ?_ ?_ _)|(focus (simp;first|done|omega))|omega))⟩
    all_goals first|exact a.out|(rw[<-a.out];simp;omega)
  ·have a:=Q00 (Q13 (Q2C (b:=b) (f:=f)) (fun q=>h2 q.2.1))
   go_enter Tryz.func262,Tryz.ntmps262;go_wp2
   all_goals go_ret
   all_goals refine⟨Q03 ?_,by(repeat (first|with_reducible (first|exact c|exact KBq|refine KHq ?_|refine below_drewN ?_ _|refine KOq ?_ ?_ _|refine KNq ?_ ?_ _)|(focus (simp;first|done|omega))|omega))⟩
   all_goals first|exact a.out|(rw[<-a.out];simp;omega)
 ·have a:=Q00 (Q13 (Q2C (b:=b) (f:=f)) (fun q=>h1 q.1))
  go_enter Tryz.func262,Tryz.ntmps262;go_wp2
  all_goals go_ret
  all_goals refine⟨Q03 ?_,by(repeat (first|with_reducible (first|exact c|exact KBq|refine KHq ?_|refine below_drewN ?_ _|refine KOq ?_ ?_ _|refine KNq ?_ ?_ _)|(focus (simp;first|done|omega))|omega))⟩
  all_goals first|exact a.out|(rw[<-a.out];simp;omega)
theorem Qf0 (a b:Int) (w:World):
  Calls Tryz.prog 229 #[seg a b] w fun e d=>e=.returned (seg a b)/\Below w.heap.size w d:=by
 have c:Below w.heap.size w w:=KBq;go_enter Tryz.func229,Tryz.ntmps229;go_wp2;refine bodyPost_ret (v:=.agg #[.int .i64 a,.int .i64 b]) (by simp[results,Tryz.results229,go_sem]) rfl ⟨rfl, ?_⟩
 (repeat (first|with_reducible (first|exact c|exact KBq|refine KHq ?_|refine below_drewN ?_ _|refine KOq ?_ ?_ _|refine KNq ?_ ?_ _)|(focus (simp;first|done|omega))|omega))
theorem Qfy (a b c d:Int) (w:World):
  Calls Tryz.prog 225 #[seg a b,seg c d] w fun e g=>e=.returned (.bool (decide (a=c/\b=d)))/\Below w.heap.size w g:=by
 have f:Below w.heap.size w w:=KBq;go_enter Tryz.func225,Tryz.ntmps225;go_wp2
 all_goals go_ret
 all_goals refine⟨?_,by(repeat (first|with_reducible (first|exact f|exact KBq|refine KHq ?_|refine below_drewN ?_ _|refine KOq ?_ ?_ _|refine KNq ?_ ?_ _)|(focus (simp;first|done|omega))|omega))⟩
 all_goals (simp_all)
theorem QcG (a b:Int) (w:World):
  Calls Tryz.prog 225 #[seg a b,seg a b] w fun e w'=>e=.returned (.bool true)/\Below w.heap.size w w':=by
 have:=Qfy a b a b w
 simpa using this
theorem fnExactListed_closed:joinedFacts Tryz.pinned.checked.prog 7 Tryz.f7 Rows.fnExactListedSpec Rows.fnExactListedRow=true:=by
 unfold joinedFacts;rw[Bool.and_eq_true];refine⟨?_,by as_aux_lemma=>kernel_rfl⟩;rw[Bool.and_eq_true];refine⟨?_,by as_aux_lemma=>kernel_rfl⟩;rw[Bool.and_eq_true];refine⟨?_,by as_aux_lemma=>kernel_rfl⟩;rw[Bool.and_eq_true];refine⟨?_,by as_aux_lemma=>kernel_rfl⟩
 iterate 3 rw[Bool.and_assoc]
 rw[Bool.and_eq_true];refine⟨?_,by as_aux_lemma=>kernel_rfl⟩
 iterate 3 rw[Bool.and_assoc]
 rw[Bool.and_eq_true];refine⟨?_,by as_aux_lemma=>kernel_rfl⟩
 iterate 3 rw[Bool.and_assoc]
 rw[Bool.and_eq_true];refine⟨?_,by as_aux_lemma=>kernel_rfl⟩
 iterate 3 rw[Bool.and_assoc]
 rw[Bool.and_eq_true];refine⟨?_,by as_aux_lemma=>kernel_rfl⟩
 iterate 3 rw[Bool.and_assoc]
 rw[Bool.and_eq_true];refine⟨?_,by as_aux_lemma=>kernel_rfl⟩
 iterate 3 rw[Bool.and_assoc]
 rw[Bool.and_eq_true];refine⟨?_,by as_aux_lemma=>kernel_rfl⟩
 as_aux_lemma=>kernel_rfl
end Go.Proofs.YteffhdcankkfkaaGreat
