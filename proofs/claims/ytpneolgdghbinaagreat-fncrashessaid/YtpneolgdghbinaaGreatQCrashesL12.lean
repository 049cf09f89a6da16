/- The heap of the library over the scoreboard: how its methods are found. -/
import Derived.ChangeKeysEq
import Derived.Test.YtpneolgdghbinaaGreatQCrashesL03
import Derived.Test.YtpneolgdghbinaaGreatQCrashesL09
namespace Go.Proofs.YtpneolgdghbinaaGreat
open Go.ChangeShapes Go.WideShapes Go.ChangeAt Go.RowKit Go.Joins
set_option linter.unusedVariables false
set_option linter.unusedSimpArgs false
set_option maxRecDepth 100000
set_option maxHeartbeats 40000000
theorem Q21:(Tryz.prog.info? 262).map (fun i=>(i.methods.find? (fun m=>m.name== "Less")).map (fun m=>(m.path,m.func)))=some (some (#[],some (215,false))):=by kernel_rfl
theorem Q25:(Tryz.prog.info? 262).map (fun i=>(i.methods.find? (fun m=>m.name== "Swap")).map (fun m=>(m.path,m.func)))=some (some (#[],some (218,false))):=by kernel_rfl
theorem Q51:(Tryz.prog.info? 262).map (fun i=>(i.methods.find? (fun m=>m.name== "Len")).map (fun m=>(m.path,m.func)))=some (some (#[],some (214,false))):=by kernel_rfl
theorem Q8Z:(Tryz.prog.info? 262).map (fun i=>(i.methods.find? (fun m=>m.name== "Push")).map (fun m=>(m.path,m.func)))=some (some (#[],some (217,true))):=by kernel_rfl
theorem Qby:(Tryz.prog.info? 262).map (fun i=>(i.methods.find? (fun m=>m.name== "Pop")).map (fun m=>(m.path,m.func)))=some (some (#[],some (216,true))):=by kernel_rfl
theorem Qfz:Tryz.prog.underlying 262=some (.pointer 264):=Tryz.underlying262
theorem Qem (ts:Array TypeId) (t:TypeId) (a:Addr) (s1 s2:String):Builtin.ssaWrapNilChk_ ts t #[.pointer (some a),strVal s1,strVal s2]=pure (.pointer (some a)):=rfl
theorem Q7O {a:String} {f:FuncId} {k:Nat} {v:Value} {w:World} (hm:(Tryz.prog.info? 262).map (fun i=>(i.methods.find? (fun m=>m.name==a)).map (fun m=>(m.path,m.func)))=some (some (#[],some (f,false))))
  (d:w.cell? ⟨k,0,none⟩=some v):Sem.run Tryz.prog (method (Tryz.prog.types.size+100) 262 (.pointer (some ⟨k,0,none⟩)) a) w=.ok (f,v) w:=by
 obtain⟨i,hi,g⟩:=Option.map_eq_some_iff.1 hm;obtain⟨m,c,b⟩:=Option.map_eq_some_iff.1 g;simp only[Prod.mk.injEq]at b;have h:=run_typeInfo (w:=w) hi;have j:=run_underlying Qfz w;unfold method;simp only[Sem.run_bind,h,Result.andThen];rw[c];simp only[b.1,b.2];simp[follow,receiverAt,Sem.run_bind,j,Place.get,Qem,asAddr,d,go_sem]
theorem Q76 {a:String} {f:FuncId} {k:Nat} {w:World} (hm:(Tryz.prog.info? 262).map (fun i=>(i.methods.find? (fun m=>m.name==a)).map (fun m=>(m.path,m.func)))=some (some (#[],some (f,true)))):
  Sem.run Tryz.prog (method (Tryz.prog.types.size+100) 262 (.pointer (some ⟨k,0,none⟩)) a) w=.ok (f,.pointer (some ⟨k,0,none⟩)) w:=by
 obtain⟨i,hi,d⟩:=Option.map_eq_some_iff.1 hm;obtain⟨m,c,b⟩:=Option.map_eq_some_iff.1 d;simp only[Prod.mk.injEq]at b;have g:=run_typeInfo (w:=w) hi;have h:=run_underlying Qfz w;unfold method;simp only[Sem.run_bind,g,Result.andThen];rw[c];simp only[b.1,b.2];simp[follow,receiverAt,Sem.run_bind,h,Place.get,go_sem]
theorem Q5E:Tryz.prog.types.size+100=383:=by kernel_rfl
theorem Q0q {a:String} {f:FuncId} {k:Nat} {v:Value} {w:World} (hm:(Tryz.prog.info? 262).map (fun i=>(i.methods.find? (fun m=>m.name==a)).map (fun m=>(m.path,m.func)))=some (some (#[],some (f,false))))
  (b:w.cell? ⟨k,0,none⟩=some v):Sem.run Tryz.prog (method 383 262 (.pointer (some ⟨k,0,none⟩)) a) w=.ok (f,v) w:=by
 rw[<-Q5E];exact Q7O hm b
theorem Q3h {a:String} {f:FuncId} {k:Nat} {w:World} (hm:(Tryz.prog.info? 262).map (fun i=>(i.methods.find? (fun m=>m.name==a)).map (fun m=>(m.path,m.func)))=some (some (#[],some (f,true)))):
  Sem.run Tryz.prog (method 383 262 (.pointer (some ⟨k,0,none⟩)) a) w=.ok (f,.pointer (some ⟨k,0,none⟩)) w:=by
 rw[<-Q5E];exact Q76 hm
end Go.Proofs.YtpneolgdghbinaaGreat
