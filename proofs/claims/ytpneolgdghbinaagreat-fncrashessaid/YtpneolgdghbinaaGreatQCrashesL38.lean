/- Slices of segs: how they read. -/
import Derived.Deep.SlicePairs
import Derived.Test.YtpneolgdghbinaaGreatQCrashesL02
namespace Go.Proofs.YtpneolgdghbinaaGreat
open Go.ChangeShapes Go.WideShapes Go.ChangeAt Go.RowKit Go.Joins
set_option linter.unusedVariables false
set_option linter.unusedSimpArgs false
set_option maxRecDepth 100000
set_option maxHeartbeats 40000000
def RdG (w:World) (o:Option Addr) (l:List (Int × Int)):Prop:=
 l=[]\/∃b off,o=some ⟨b,off,none⟩/\b < w.heap.size/\∀i,i < l.length->w.cell? ⟨b,off+i * 2,none⟩=some (.int .i64 (l.getD i (0,0)).1)/\w.cell? ⟨b,off+i * 2+1,none⟩=some (.int .i64 (l.getD i (0,0)).2)
theorem RdG.kept {w f:World} {o:Option Addr} {l:List (Int × Int)} (h:RdG w o l) (c:Below w.heap.size w f):RdG f o l:=by
 rcases h with h|⟨b,off,g,a,d⟩
 ·exact .inl h
 ·exact .inr ⟨b,off,g,Kbq a c.size,fun i hi=>⟨(c.cell (p:=⟨b,off+i * 2,none⟩) a).trans (d i hi).1,(c.cell (p:=⟨b,off+i * 2+1,none⟩) a).trans (d i hi).2⟩⟩
theorem QhH:(Tryz.prog.info? 50).map (fun i=>(i.zero,i.size,i.bytes))=some (some (.agg #[.int .i64 0,.int .i64 0]),2,16):=by kernel_rfl
theorem Q8u (l:List (Int × Int)) (k:Nat) (h:k < l.length):l.take (k+1)=l.take k++[l.getD k (0,0)]:=by
 rw[List.take_succ_eq_append_getElem h];simp[h]
end Go.Proofs.YtpneolgdghbinaaGreat
