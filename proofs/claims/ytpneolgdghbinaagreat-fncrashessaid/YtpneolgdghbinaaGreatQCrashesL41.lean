/- The model's CarrierOk: a plain function, and the contract. -/
import Derived.Test.YtpneolgdghbinaaGreatQCrashesL39
import Derived.Test.YtpneolgdghbinaaGreatQCrashesL18
import Derived.Test.YtpneolgdghbinaaGreatQCrashesL09
namespace Go.Proofs.YtpneolgdghbinaaGreat
open Go.ChangeShapes Go.WideShapes Go.ChangeAt Go.RowKit Go.Joins
set_option linter.unusedVariables false
set_option linter.unusedSimpArgs false
set_option maxRecDepth 100000
set_option maxHeartbeats 40000000
def Q83 (f:Int):Bool:=bits .and .i64 f 3==1
def Q4h (op:Bool):Int->List (Int × Int)->Bool
 |_,[]=>true
 |h,p::l=>Q2Y p.1 p.2 && !(p.2==1 && !op) && !(decide (p.2 < h)) && Q4h op p.2 l
def QeD (a b f s:Int) (n m:Nat) (pl st:Int):Bool:=Q0D a b f s n && decide (1<=(m:Int)) && decide ((m:Int)<=24) && decide (0<=pl) && decide (pl < (m:Int)) && decide (0<=st) && decide (st<=100000)
def Q2e (a b f s:Int) (n:Nat) (g:List (Int × Int)) (pl st:Int):Bool:=QeD a b f s n g.length pl st && Q4h (Q83 f) 0 g
theorem QaE {a b f s:Int} {n m:Nat} {pl st:Int}:QeD a b f s n m pl st=true↔(Q0D a b f s n=true/\1<=(m:Int)/\(m:Int)<=24/\0<=pl/\pl < (m:Int)/\0<=st/\st<=100000/\True):=by simp[QeD,and_assoc]
theorem Q24 {a b f s:Int} {n:Nat} {g:List (Int × Int)} {pl st:Int} (h:¬(Q0D a b f s n=true/\1<=(g.length:Int)/\(g.length:Int)<=24/\0<=pl/\pl < (g.length:Int)/\0<=st/\st<=100000/\True)):false=Q2e a b f s n g pl st:=by
 have:QeD a b f s n g.length pl st=false:=by rw[Bool.eq_false_iff];exact fun q=>h (QaE.1 q)
 simp[Q2e,this]
theorem Q8r {a b f s:Int} {n:Nat} {g:List (Int × Int)} {pl st:Int} (h:QeD a b f s n g.length pl st=true):Q4h (Q83 f) 0 g=Q2e a b f s n g pl st:=by simp[Q2e,h]
def boxC (k:Nat) (a b f s:Int) (v g:Value) (pl st:Int) (w:World):Prop:=
 w.cell? ⟨k,0,none⟩=some (.int .i64 a)/\w.cell? ⟨k,1,none⟩=some (.int .i64 b)/\w.cell? ⟨k,2,none⟩=some (.int .i64 f)/\w.cell? ⟨k,3,none⟩=some (.int .i64 s)/\w.cell? ⟨k,4,none⟩=some v/\
 w.cell? ⟨k,5,none⟩=some g/\w.cell? ⟨k,6,none⟩=some (.int .i64 pl)/\w.cell? ⟨k,7,none⟩=some (.int .i64 st)
theorem boxC.kept {k:Nat} {a b f s:Int} {v g:Value} {pl st:Int} {w i:World} {B:Nat} (h:boxC k a b f s v g pl st w) (c:Below B w i) (d:k < B):boxC k a b f s v g pl st i:=
 ⟨(c.cell (p:=⟨k,0,none⟩) d).trans h.1,(c.cell (p:=⟨k,1,none⟩) d).trans h.2.1,(c.cell (p:=⟨k,2,none⟩) d).trans h.2.2.1,(c.cell (p:=⟨k,3,none⟩) d).trans h.2.2.2.1,(c.cell (p:=⟨k,4,none⟩) d).trans h.2.2.2.2.1,
  (c.cell (p:=⟨k,5,none⟩) d).trans h.2.2.2.2.2.1,(c.cell (p:=⟨k,6,none⟩) d).trans h.2.2.2.2.2.2.1,(c.cell (p:=⟨k,7,none⟩) d).trans h.2.2.2.2.2.2.2⟩
theorem Qgk (w:World) (a b f s:Int) (v g:Value) (pl st:Int) (e:TypeId):boxC w.heap.size a b f s v g pl st (w.alloc (.cells #[.int .i64 a,.int .i64 b,.int .i64 f,.int .i64 s,v,g,.int .i64 pl,.int .i64 st] e)):=by
 unfold boxC;simp
end Go.Proofs.YtpneolgdghbinaaGreat
