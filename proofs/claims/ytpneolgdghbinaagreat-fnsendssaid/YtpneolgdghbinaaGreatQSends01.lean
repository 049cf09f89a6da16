/- Several texts in one: Base, SFlow, SSeg. -/
import Derived.WalkKit
import Derived.ProofKit
import Derived.OpenShut
import Derived.Below
import Derived.OwnWalk
import Derived.Outline
import Derived.Lib.SmallJoins
import Derived.WalkLawsBesides
import Derived.Test.YtpneolgdghbinaaGreatRows
namespace Go.Proofs.YtpneolgdghbinaaGreat
open Go.ChangeShapes Go.WideShapes Go.ChangeAt Go.RowKit Go.Joins
set_option linter.unusedVariables false
set_option linter.unusedSimpArgs false
set_option maxRecDepth 100000
set_option maxHeartbeats 40000000
theorem Kaq (n : Nat) : n ≤ n := Nat.le_refl n
theorem Kbq {a b c : Nat} (h : a < b) (k : b ≤ c) : a < c := Nat.lt_of_lt_of_le h k
theorem Kcq (n : Nat) : 0 ≤ n := Nat.zero_le n
theorem Kdq {a b c : Nat} (h : a ≤ b) (k : b ≤ c) : a ≤ c := Nat.le_trans h k
theorem alc2v0v2 {w W:World} {O1:Obj} {c0 c1:Value} {T:TypeId} (h:((w.alloc (.cells #[c0,c1] T)).alloc O1)=W):W.cell? ⟨w.heap.size,0,none⟩=some c0∧W.cell? ⟨w.heap.size,1,none⟩=some c1:=by subst h;refine ⟨?_,?_⟩<;>simp [go_sem]
theorem alc2v1v2 {w W:World} {O0:Obj} {c0 c1:Value} {T:TypeId} (h:((w.alloc O0).alloc (.cells #[c0,c1] T))=W):W.cell? ⟨w.heap.size+1,0,none⟩=some c0∧W.cell? ⟨w.heap.size+1,1,none⟩=some c1:=by subst h;refine ⟨?_,?_⟩<;>simp [go_sem]
theorem alc2v1v3 {w W:World} {O0 O2:Obj} {c0 c1:Value} {T:TypeId} (h:(((w.alloc O0).alloc (.cells #[c0,c1] T)).alloc O2)=W):W.cell? ⟨w.heap.size+1,0,none⟩=some c0∧W.cell? ⟨w.heap.size+1,1,none⟩=some c1:=by subst h;refine ⟨?_,?_⟩<;>simp [go_sem]
theorem alc3v0v1 {w W:World} {c0 c1 c2:Value} {T:TypeId} (h:(w.alloc (.cells #[c0,c1,c2] T))=W):W.cell? ⟨w.heap.size,0,none⟩=some c0∧W.cell? ⟨w.heap.size,1,none⟩=some c1∧W.cell? ⟨w.heap.size,2,none⟩=some c2:=by subst h;refine ⟨?_,?_,?_⟩<;>simp [go_sem]
theorem alc3v0v2 {w W:World} {O1:Obj} {c0 c1 c2:Value} {T:TypeId} (h:((w.alloc (.cells #[c0,c1,c2] T)).alloc O1)=W):W.cell? ⟨w.heap.size,0,none⟩=some c0∧W.cell? ⟨w.heap.size,1,none⟩=some c1∧W.cell? ⟨w.heap.size,2,none⟩=some c2:=by subst h;refine ⟨?_,?_,?_⟩<;>simp [go_sem]
theorem alc3v0v3 {w W:World} {O1 O2:Obj} {c0 c1 c2:Value} {T:TypeId} (h:(((w.alloc (.cells #[c0,c1,c2] T)).alloc O1).alloc O2)=W):W.cell? ⟨w.heap.size,0,none⟩=some c0∧W.cell? ⟨w.heap.size,1,none⟩=some c1∧W.cell? ⟨w.heap.size,2,none⟩=some c2:=by subst h;refine ⟨?_,?_,?_⟩<;>simp [go_sem]
theorem alc3v1v2 {w W:World} {O0:Obj} {c0 c1 c2:Value} {T:TypeId} (h:((w.alloc O0).alloc (.cells #[c0,c1,c2] T))=W):W.cell? ⟨w.heap.size+1,0,none⟩=some c0∧W.cell? ⟨w.heap.size+1,1,none⟩=some c1∧W.cell? ⟨w.heap.size+1,2,none⟩=some c2:=by subst h;refine ⟨?_,?_,?_⟩<;>simp [go_sem]
theorem alc3v1v3 {w W:World} {O0 O2:Obj} {c0 c1 c2:Value} {T:TypeId} (h:(((w.alloc O0).alloc (.cells #[c0,c1,c2] T)).alloc O2)=W):W.cell? ⟨w.heap.size+1,0,none⟩=some c0∧W.cell? ⟨w.heap.size+1,1,none⟩=some c1∧W.cell? ⟨w.heap.size+1,2,none⟩=some c2:=by subst h;refine ⟨?_,?_,?_⟩<;>simp [go_sem]
theorem alc3v2v3 {w W:World} {O0 O1:Obj} {c0 c1 c2:Value} {T:TypeId} (h:(((w.alloc O0).alloc O1).alloc (.cells #[c0,c1,c2] T))=W):W.cell? ⟨w.heap.size+1+1,0,none⟩=some c0∧W.cell? ⟨w.heap.size+1+1,1,none⟩=some c1∧W.cell? ⟨w.heap.size+1+1,2,none⟩=some c2:=by subst h;refine ⟨?_,?_,?_⟩<;>simp [go_sem]
theorem alc5v0v1 {w W:World} {c0 c1 c2 c3 c4:Value} {T:TypeId} (h:(w.alloc (.cells #[c0,c1,c2,c3,c4] T))=W):W.cell? ⟨w.heap.size,0,none⟩=some c0∧W.cell? ⟨w.heap.size,1,none⟩=some c1∧W.cell? ⟨w.heap.size,2,none⟩=some c2∧W.cell? ⟨w.heap.size,3,none⟩=some c3∧W.cell? ⟨w.heap.size,4,none⟩=some c4:=by subst h;refine ⟨?_,?_,?_,?_,?_⟩<;>simp [go_sem]
theorem alc5v1v2 {w W:World} {O0:Obj} {c0 c1 c2 c3 c4:Value} {T:TypeId} (h:((w.alloc O0).alloc (.cells #[c0,c1,c2,c3,c4] T))=W):W.cell? ⟨w.heap.size+1,0,none⟩=some c0∧W.cell? ⟨w.heap.size+1,1,none⟩=some c1∧W.cell? ⟨w.heap.size+1,2,none⟩=some c2∧W.cell? ⟨w.heap.size+1,3,none⟩=some c3∧W.cell? ⟨w.heap.size+1,4,none⟩=some c4:=by subst h;refine ⟨?_,?_,?_,?_,?_⟩<;>simp [go_sem]
theorem alc5v1v3 {w W:World} {O0 O2:Obj} {c0 c1 c2 c3 c4:Value} {T:TypeId} (h:(((w.alloc O0).alloc (.cells #[c0,c1,c2,c3,c4] T)).alloc O2)=W):W.cell? ⟨w.heap.size+1,0,none⟩=some c0∧W.cell? ⟨w.heap.size+1,1,none⟩=some c1∧W.cell? ⟨w.heap.size+1,2,none⟩=some c2∧W.cell? ⟨w.heap.size+1,3,none⟩=some c3∧W.cell? ⟨w.heap.size+1,4,none⟩=some c4:=by subst h;refine ⟨?_,?_,?_,?_,?_⟩<;>simp [go_sem]
theorem alc5v2v3 {w W:World} {O0 O1:Obj} {c0 c1 c2 c3 c4:Value} {T:TypeId} (h:(((w.alloc O0).alloc O1).alloc (.cells #[c0,c1,c2,c3,c4] T))=W):W.cell? ⟨w.heap.size+1+1,0,none⟩=some c0∧W.cell? ⟨w.heap.size+1+1,1,none⟩=some c1∧W.cell? ⟨w.heap.size+1+1,2,none⟩=some c2∧W.cell? ⟨w.heap.size+1+1,3,none⟩=some c3∧W.cell? ⟨w.heap.size+1+1,4,none⟩=some c4:=by subst h;refine ⟨?_,?_,?_,?_,?_⟩<;>simp [go_sem]
theorem alc7v0v1 {w W:World} {c0 c1 c2 c3 c4 c5 c6:Value} {T:TypeId} (h:(w.alloc (.cells #[c0,c1,c2,c3,c4,c5,c6] T))=W):W.cell? ⟨w.heap.size,0,none⟩=some c0∧W.cell? ⟨w.heap.size,1,none⟩=some c1∧W.cell? ⟨w.heap.size,2,none⟩=some c2∧W.cell? ⟨w.heap.size,3,none⟩=some c3∧W.cell? ⟨w.heap.size,4,none⟩=some c4∧W.cell? ⟨w.heap.size,5,none⟩=some c5∧W.cell? ⟨w.heap.size,6,none⟩=some c6:=by subst h;refine ⟨?_,?_,?_,?_,?_,?_,?_⟩<;>simp [go_sem]
theorem alc7v0v2 {w W:World} {O1:Obj} {c0 c1 c2 c3 c4 c5 c6:Value} {T:TypeId} (h:((w.alloc (.cells #[c0,c1,c2,c3,c4,c5,c6] T)).alloc O1)=W):W.cell? ⟨w.heap.size,0,none⟩=some c0∧W.cell? ⟨w.heap.size,1,none⟩=some c1∧W.cell? ⟨w.heap.size,2,none⟩=some c2∧W.cell? ⟨w.heap.size,3,none⟩=some c3∧W.cell? ⟨w.heap.size,4,none⟩=some c4∧W.cell? ⟨w.heap.size,5,none⟩=some c5∧W.cell? ⟨w.heap.size,6,none⟩=some c6:=by subst h;refine ⟨?_,?_,?_,?_,?_,?_,?_⟩<;>simp [go_sem]
theorem alc7v0v3 {w W:World} {O1 O2:Obj} {c0 c1 c2 c3 c4 c5 c6:Value} {T:TypeId} (h:(((w.alloc (.cells #[c0,c1,c2,c3,c4,c5,c6] T)).alloc O1).alloc O2)=W):W.cell? ⟨w.heap.size,0,none⟩=some c0∧W.cell? ⟨w.heap.size,1,none⟩=some c1∧W.cell? ⟨w.heap.size,2,none⟩=some c2∧W.cell? ⟨w.heap.size,3,none⟩=some c3∧W.cell? ⟨w.heap.size,4,none⟩=some c4∧W.cell? ⟨w.heap.size,5,none⟩=some c5∧W.cell? ⟨w.heap.size,6,none⟩=some c6:=by subst h;refine ⟨?_,?_,?_,?_,?_,?_,?_⟩<;>simp [go_sem]
theorem alc7v1v2 {w W:World} {O0:Obj} {c0 c1 c2 c3 c4 c5 c6:Value} {T:TypeId} (h:((w.alloc O0).alloc (.cells #[c0,c1,c2,c3,c4,c5,c6] T))=W):W.cell? ⟨w.heap.size+1,0,none⟩=some c0∧W.cell? ⟨w.heap.size+1,1,none⟩=some c1∧W.cell? ⟨w.heap.size+1,2,none⟩=some c2∧W.cell? ⟨w.heap.size+1,3,none⟩=some c3∧W.cell? ⟨w.heap.size+1,4,none⟩=some c4∧W.cell? ⟨w.heap.size+1,5,none⟩=some c5∧W.cell? ⟨w.heap.size+1,6,none⟩=some c6:=by subst h;refine ⟨?_,?_,?_,?_,?_,?_,?_⟩<;>simp [go_sem]
theorem alc7v2v3 {w W:World} {O0 O1:Obj} {c0 c1 c2 c3 c4 c5 c6:Value} {T:TypeId} (h:(((w.alloc O0).alloc O1).alloc (.cells #[c0,c1,c2,c3,c4,c5,c6] T))=W):W.cell? ⟨w.heap.size+1+1,0,none⟩=some c0∧W.cell? ⟨w.heap.size+1+1,1,none⟩=some c1∧W.cell? ⟨w.heap.size+1+1,2,none⟩=some c2∧W.cell? ⟨w.heap.size+1+1,3,none⟩=some c3∧W.cell? ⟨w.heap.size+1+1,4,none⟩=some c4∧W.cell? ⟨w.heap.size+1+1,5,none⟩=some c5∧W.cell? ⟨w.heap.size+1+1,6,none⟩=some c6:=by subst h;refine ⟨?_,?_,?_,?_,?_,?_,?_⟩<;>simp [go_sem]
theorem alc8v2v3 {w W:World} {O0 O1:Obj} {c0 c1 c2 c3 c4 c5 c6 c7:Value} {T:TypeId} (h:(((w.alloc O0).alloc O1).alloc (.cells #[c0,c1,c2,c3,c4,c5,c6,c7] T))=W):W.cell? ⟨w.heap.size+1+1,0,none⟩=some c0∧W.cell? ⟨w.heap.size+1+1,1,none⟩=some c1∧W.cell? ⟨w.heap.size+1+1,2,none⟩=some c2∧W.cell? ⟨w.heap.size+1+1,3,none⟩=some c3∧W.cell? ⟨w.heap.size+1+1,4,none⟩=some c4∧W.cell? ⟨w.heap.size+1+1,5,none⟩=some c5∧W.cell? ⟨w.heap.size+1+1,6,none⟩=some c6∧W.cell? ⟨w.heap.size+1+1,7,none⟩=some c7:=by subst h;refine ⟨?_,?_,?_,?_,?_,?_,?_,?_⟩<;>simp [go_sem]
theorem alf3v0v1 {w W:World} {c0 c1 c2:Value} {T:TypeId} (h:(w.alloc (.cells #[c0,c1,c2] T))=W):W.frozen? ⟨w.heap.size,0,none⟩=false∧W.frozen? ⟨w.heap.size,1,none⟩=false∧W.frozen? ⟨w.heap.size,2,none⟩=false:=by subst h;refine ⟨?_,?_,?_⟩<;>simp [go_sem]
theorem alf3v0v2 {w W:World} {O1:Obj} {c0 c1 c2:Value} {T:TypeId} (h:((w.alloc (.cells #[c0,c1,c2] T)).alloc O1)=W):W.frozen? ⟨w.heap.size,0,none⟩=false∧W.frozen? ⟨w.heap.size,1,none⟩=false∧W.frozen? ⟨w.heap.size,2,none⟩=false:=by subst h;refine ⟨?_,?_,?_⟩<;>simp [go_sem]
theorem alf3v1v2 {w W:World} {O0:Obj} {c0 c1 c2:Value} {T:TypeId} (h:((w.alloc O0).alloc (.cells #[c0,c1,c2] T))=W):W.frozen? ⟨w.heap.size+1,0,none⟩=false∧W.frozen? ⟨w.heap.size+1,1,none⟩=false∧W.frozen? ⟨w.heap.size+1,2,none⟩=false:=by subst h;refine ⟨?_,?_,?_⟩<;>simp [go_sem]
theorem alf3v2v3 {w W:World} {O0 O1:Obj} {c0 c1 c2:Value} {T:TypeId} (h:(((w.alloc O0).alloc O1).alloc (.cells #[c0,c1,c2] T))=W):W.frozen? ⟨w.heap.size+1+1,0,none⟩=false∧W.frozen? ⟨w.heap.size+1+1,1,none⟩=false∧W.frozen? ⟨w.heap.size+1+1,2,none⟩=false:=by subst h;refine ⟨?_,?_,?_⟩<;>simp [go_sem]
theorem alf5v1v2 {w W:World} {O0:Obj} {c0 c1 c2 c3 c4:Value} {T:TypeId} (h:((w.alloc O0).alloc (.cells #[c0,c1,c2,c3,c4] T))=W):W.frozen? ⟨w.heap.size+1,0,none⟩=false∧W.frozen? ⟨w.heap.size+1,1,none⟩=false∧W.frozen? ⟨w.heap.size+1,2,none⟩=false∧W.frozen? ⟨w.heap.size+1,3,none⟩=false∧W.frozen? ⟨w.heap.size+1,4,none⟩=false:=by subst h;refine ⟨?_,?_,?_,?_,?_⟩<;>simp [go_sem]
theorem alf5v2v3 {w W:World} {O0 O1:Obj} {c0 c1 c2 c3 c4:Value} {T:TypeId} (h:(((w.alloc O0).alloc O1).alloc (.cells #[c0,c1,c2,c3,c4] T))=W):W.frozen? ⟨w.heap.size+1+1,0,none⟩=false∧W.frozen? ⟨w.heap.size+1+1,1,none⟩=false∧W.frozen? ⟨w.heap.size+1+1,2,none⟩=false∧W.frozen? ⟨w.heap.size+1+1,3,none⟩=false∧W.frozen? ⟨w.heap.size+1+1,4,none⟩=false:=by subst h;refine ⟨?_,?_,?_,?_,?_⟩<;>simp [go_sem]
theorem alf7v0v1 {w W:World} {c0 c1 c2 c3 c4 c5 c6:Value} {T:TypeId} (h:(w.alloc (.cells #[c0,c1,c2,c3,c4,c5,c6] T))=W):W.frozen? ⟨w.heap.size,0,none⟩=false∧W.frozen? ⟨w.heap.size,1,none⟩=false∧W.frozen? ⟨w.heap.size,2,none⟩=false∧W.frozen? ⟨w.heap.size,3,none⟩=false∧W.frozen? ⟨w.heap.size,4,none⟩=false∧W.frozen? ⟨w.heap.size,5,none⟩=false∧W.frozen? ⟨w.heap.size,6,none⟩=false:=by subst h;refine ⟨?_,?_,?_,?_,?_,?_,?_⟩<;>simp [go_sem]
theorem alf7v1v2 {w W:World} {O0:Obj} {c0 c1 c2 c3 c4 c5 c6:Value} {T:TypeId} (h:((w.alloc O0).alloc (.cells #[c0,c1,c2,c3,c4,c5,c6] T))=W):W.frozen? ⟨w.heap.size+1,0,none⟩=false∧W.frozen? ⟨w.heap.size+1,1,none⟩=false∧W.frozen? ⟨w.heap.size+1,2,none⟩=false∧W.frozen? ⟨w.heap.size+1,3,none⟩=false∧W.frozen? ⟨w.heap.size+1,4,none⟩=false∧W.frozen? ⟨w.heap.size+1,5,none⟩=false∧W.frozen? ⟨w.heap.size+1,6,none⟩=false:=by subst h;refine ⟨?_,?_,?_,?_,?_,?_,?_⟩<;>simp [go_sem]
theorem alf7v2v3 {w W:World} {O0 O1:Obj} {c0 c1 c2 c3 c4 c5 c6:Value} {T:TypeId} (h:(((w.alloc O0).alloc O1).alloc (.cells #[c0,c1,c2,c3,c4,c5,c6] T))=W):W.frozen? ⟨w.heap.size+1+1,0,none⟩=false∧W.frozen? ⟨w.heap.size+1+1,1,none⟩=false∧W.frozen? ⟨w.heap.size+1+1,2,none⟩=false∧W.frozen? ⟨w.heap.size+1+1,3,none⟩=false∧W.frozen? ⟨w.heap.size+1+1,4,none⟩=false∧W.frozen? ⟨w.heap.size+1+1,5,none⟩=false∧W.frozen? ⟨w.heap.size+1+1,6,none⟩=false:=by subst h;refine ⟨?_,?_,?_,?_,?_,?_,?_⟩<;>simp [go_sem]
theorem alf8v2v3 {w W:World} {O0 O1:Obj} {c0 c1 c2 c3 c4 c5 c6 c7:Value} {T:TypeId} (h:(((w.alloc O0).alloc O1).alloc (.cells #[c0,c1,c2,c3,c4,c5,c6,c7] T))=W):W.frozen? ⟨w.heap.size+1+1,0,none⟩=false∧W.frozen? ⟨w.heap.size+1+1,1,none⟩=false∧W.frozen? ⟨w.heap.size+1+1,2,none⟩=false∧W.frozen? ⟨w.heap.size+1+1,3,none⟩=false∧W.frozen? ⟨w.heap.size+1+1,4,none⟩=false∧W.frozen? ⟨w.heap.size+1+1,5,none⟩=false∧W.frozen? ⟨w.heap.size+1+1,6,none⟩=false∧W.frozen? ⟨w.heap.size+1+1,7,none⟩=false:=by subst h;refine ⟨?_,?_,?_,?_,?_,?_,?_,?_⟩<;>simp [go_sem]
theorem own:ownKnob Tryz.prog.godebug=none:=by kernel_rfl
theorem Qdy:laidOutB Tryz.prog=true:=by kernel_rfl
theorem Q1z {W w1:World} (hb:Below W.heap.size W w1):(∀b o,b < W.heap.size→w1.cell? ⟨b,o,none⟩=W.cell? ⟨b,o,none⟩)∧(∀b o,b < W.heap.size→w1.frozen? ⟨b,o,none⟩=W.frozen? ⟨b,o,none⟩):=
 ⟨fun b o h=> hb.cell (p:=⟨b,o,none⟩) h,fun b o h=> hb.frozen (p:=⟨b,o,none⟩) h⟩
theorem Q0c {a b:Bool} (h:a=b):Ending.returned (.bool a)=.returned (.bool b):=by rw [h]
theorem Q0J {k:IntKind} {a b:Int} (h:a=b):Ending.returned (.int k a)=.returned (.int k b):=by rw [h]
theorem Q04 {w:World} {base base':Nat} {e:TypeId} {size:Nat} {v:Value} {n:Nat} {xs:List Value} (h:w.ownsRow base e size v n xs) (hb:base'≤base):w.ownsRow base' e size v n xs:=by
 obtain ⟨h1,h2⟩:=h
 refine ⟨h1, ?_⟩
 rcases h2 with h2|⟨g,cap,cur,hv,hg,r⟩
 ·exact .inl h2
 ·exact .inr ⟨g,cap,cur,hv,Kdq hb hg,r⟩
theorem Q1H {b:Bool} {P:Prop} (hi:b=true↔P) (h:¬P):false=b:=by cases b <;> simp_all
theorem Q02 {p:Prop} (h:p):Hid p:=h
def Q0f (a b:Int):Bool:=decide (0≤a) && decide (a < 65536) && decide (0≤b) && decide (b < 65536)
theorem Q0Y {a b:Int}:Q0f a b=true↔0≤a∧a < 65536∧0≤b∧b < 65536:=by simp [Q0f,and_assoc]
def Q6B (a:Int):Bool:=decide (0≤a) && decide (a≤65535)
theorem Q8x (a b:Int):Q0f a b=(Q6B a && Q6B b):=by
 rw [Bool.eq_iff_iff];simp [Q0f,Q6B];omega
theorem Q0L (a b:Int) (w:World):
  Calls Tryz.prog 44 #[.agg #[.int .i64 a,.int .i64 b]] w fun e w'=> e=.returned (.bool (Q0f a b))∧Below w.heap.size w w':=by
 have hB:Below w.heap.size w w:=Below.refl _ _
 go_enter Tryz.func44,Tryz.ntmps44
 go_wp2
 all_goals go_ret
 all_goals refine ⟨?_,by (repeat (first|with_reducible (first|exact hB|exact Below.refl _ _|refine Below.drew ?_|refine below_drewN ?_ _|refine Below.alloc ?_ ?_ _|refine Below.setCell ?_ ?_ _)|(focus (simp;first|done|omega))|omega))⟩
 all_goals first|(simp [Q0f, *];done)|(simp [Q0f];omega)
theorem Q0K (a b:Int) (w:World):
  Calls Tryz.prog 53 #[.agg #[.int .i64 a,.int .i64 b]] w fun e w'=> e=.returned (.bool (Q0f a b))∧Below w.heap.size w w':=by
 rw [Q8x]
 have hB:Below w.heap.size w w:=Below.refl _ _
 go_enter Tryz.func53,Tryz.ntmps53
 go_wp2
 all_goals go_ret
 all_goals refine ⟨?_,by (repeat (first|with_reducible (first|exact hB|exact Below.refl _ _|refine Below.drew ?_|refine below_drewN ?_ _|refine Below.alloc ?_ ?_ _|refine Below.setCell ?_ ?_ _)|(focus (simp;first|done|omega))|omega))⟩
 all_goals first|(simp [Q6B, *];done)|(simp [Q6B];omega)
def Q1K (b f:Int):Bool:=decide (0≤b) && decide (b < 6) && decide (0≤f) && decide (f≤1)
theorem Qct {b f:Int}:Q1K b f=true↔0≤b∧b < 6∧0≤f∧f≤1:=by simp [Q1K,and_assoc]
theorem Q2X {b f:Int}:Q1K b f=true↔(0≤b∧b < 6∧0≤f∧f≤1∧True):=by simp [Q1K,and_assoc]
abbrev seg (b f:Int):Value:=.agg #[.int .i64 b,.int .i64 f]
theorem Q8p (b f:Int) (w:World):
  Calls Tryz.prog 107 #[seg b f] w fun e w'=> e=.returned (.bool (Q1K b f))∧Below w.heap.size w w':=by
 have hB:Below w.heap.size w w:=Below.refl _ _
 by_cases h1:0≤b
 ·by_cases h2:b < 6
  ·by_cases h3:0≤f
   ·by_cases h4:f≤1
    ·by_cases h7:f=0
     ·subst h7
      have HY:=Q02 (show true=Q1K b 0 by simp [Q1K,h1,h2])
      go_enter Tryz.func107,Tryz.ntmps107
      go_wp2
      go_ret
      exact ⟨Q0c HY.out,by (repeat (first|with_reducible (first|exact hB|exact Below.refl _ _|refine Below.drew ?_|refine below_drewN ?_ _|refine Below.alloc ?_ ?_ _|refine Below.setCell ?_ ?_ _)|(focus (simp;first|done|omega))|omega))⟩
     ·have h8:f=1:=by omega
      subst h8
      have HY:=Q02 (show true=Q1K b 1 by simp [Q1K,h1,h2])
      go_enter Tryz.func107,Tryz.ntmps107
      go_wp2
      go_ret
      exact ⟨Q0c HY.out,by (repeat (first|with_reducible (first|exact hB|exact Below.refl _ _|refine Below.drew ?_|refine below_drewN ?_ _|refine Below.alloc ?_ ?_ _|refine Below.setCell ?_ ?_ _)|(focus (simp;first|done|omega))|omega))⟩
    ·have HN:=Q02 (Q1H (Q2X (b:=b) (f:=f)) (fun q=> h4 q.2.2.2.1))
     go_enter Tryz.func107,Tryz.ntmps107
     go_wp2
     all_goals go_ret
     all_goals refine ⟨Q0c ?_,by (repeat (first|with_reducible (first|exact hB|exact Below.refl _ _|refine Below.drew ?_|refine below_drewN ?_ _|refine Below.alloc ?_ ?_ _|refine Below.setCell ?_ ?_ _)|(focus (simp;first|done|omega))|omega))⟩
     all_goals first|exact HN.out|(rw [←HN.out];simp;omega)
   ·have HN:=Q02 (Q1H (Q2X (b:=b) (f:=f)) (fun q=> h3 q.2.2.1))
    go_enter Tryz.func107,Tryz.ntmps107
    go_wp2
    all_goals go_ret
    all_goals refine ⟨Q0c ?_,by (repeat (first|with_reducible (first|exact hB|exact Below.refl _ _|refine Below.drew ?_|refine below_drewN ?_ _|refine Below.alloc ?_ ?_ _|refine Below.setCell ?_ ?_ _)|(focus (simp;first|done|omega))|omega))⟩
    all_goals first|exact HN.out|(rw [←HN.out];simp;omega)
  ·have HN:=Q02 (Q1H (Q2X (b:=b) (f:=f)) (fun q=> h2 q.2.1))
   go_enter Tryz.func107,Tryz.ntmps107
   go_wp2
   all_goals go_ret
   all_goals refine ⟨Q0c ?_,by (repeat (first|with_reducible (first|exact hB|exact Below.refl _ _|refine Below.drew ?_|refine below_drewN ?_ _|refine Below.alloc ?_ ?_ _|refine Below.setCell ?_ ?_ _)|(focus (simp;first|done|omega))|omega))⟩
   all_goals first|exact HN.out|(rw [←HN.out];simp;omega)
 ·have HN:=Q02 (Q1H (Q2X (b:=b) (f:=f)) (fun q=> h1 q.1))
  go_enter Tryz.func107,Tryz.ntmps107
  go_wp2
  all_goals go_ret
  all_goals refine ⟨Q0c ?_,by (repeat (first|with_reducible (first|exact hB|exact Below.refl _ _|refine Below.drew ?_|refine below_drewN ?_ _|refine Below.alloc ?_ ?_ _|refine Below.setCell ?_ ?_ _)|(focus (simp;first|done|omega))|omega))⟩
  all_goals first|exact HN.out|(rw [←HN.out];simp;omega)
end Go.Proofs.YtpneolgdghbinaaGreat
