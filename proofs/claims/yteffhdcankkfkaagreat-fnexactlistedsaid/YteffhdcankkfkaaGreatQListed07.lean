/- The heap of the library over the scoreboard: how its methods are found. -/
import Derived.ChangeKeysEq
import Derived.Test.YteffhdcankkfkaaGreatQListed03
import Derived.Test.YteffhdcankkfkaaGreatQListed04
namespace Go.Proofs.YteffhdcankkfkaaGreat
open Go.ChangeShapes Go.WideShapes Go.ChangeAt Go.RowKit Go.Joins
set_option linter.unusedVariables false
set_option linter.unusedSimpArgs false
set_option maxRecDepth 100000
set_option maxHeartbeats 40000000
theorem Q4G:(Tryz.prog.info? 356).map (fun i=>(i.methods.find? (fun m=>m.name== "Less")).map (fun m=>(m.path,m.func)))=some (some (#[],some (295,false))):=by kernel_rfl
theorem Q4T:(Tryz.prog.info? 356).map (fun i=>(i.methods.find? (fun m=>m.name== "Swap")).map (fun m=>(m.path,m.func)))=some (some (#[],some (298,false))):=by kernel_rfl
theorem Q8G:(Tryz.prog.info? 356).map (fun i=>(i.methods.find? (fun m=>m.name== "Len")).map (fun m=>(m.path,m.func)))=some (some (#[],some (294,false))):=by kernel_rfl
theorem Qgh:(Tryz.prog.info? 356).map (fun i=>(i.methods.find? (fun m=>m.name== "Push")).map (fun m=>(m.path,m.func)))=some (some (#[],some (297,true))):=by kernel_rfl
theorem QhI:(Tryz.prog.info? 356).map (fun i=>(i.methods.find? (fun m=>m.name== "Pop")).map (fun m=>(m.path,m.func)))=some (some (#[],some (296,true))):=by kernel_rfl
theorem Qig:Tryz.prog.underlying 356=some (.pointer 358):=Tryz.underlying356
theorem Qhk (ts:Array TypeId) (t:TypeId) (a:Addr) (s1 s2:String):Builtin.ssaWrapNilChk_ ts t #[.pointer (some a),strVal s1,strVal s2]=pure (.pointer (some a)):=rfl
theorem QeH {a:String} {f:FuncId} {k:Nat} {v:Value} {w:World} (h:(Tryz.prog.info? 356).map (fun i=>(i.methods.find? (fun m=>m.name==a)).map (fun m=>(m.path,m.func)))=some (some (#[],some (f,false))))
  (d:w.cell? ⟨k,0,none⟩=some v):Sem.run Tryz.prog (method (Tryz.prog.types.size+100) 356 (.pointer (some ⟨k,0,none⟩)) a) w=.ok (f,v) w:=by
 obtain⟨i,hi,g⟩:=Option.map_eq_some_iff.1 h;obtain⟨m,c,b⟩:=Option.map_eq_some_iff.1 g;simp only[Prod.mk.injEq]at b;have j:=run_typeInfo (w:=w) hi;have l:=run_underlying Qig w;unfold method;simp only[Sem.run_bind,j,Result.andThen];rw[c];simp only[b.1,b.2];simp[follow,receiverAt,Sem.run_bind,l,Place.get,Qhk,asAddr,d,go_sem]
theorem Qea {a:String} {f:FuncId} {k:Nat} {w:World} (g:(Tryz.prog.info? 356).map (fun i=>(i.methods.find? (fun m=>m.name==a)).map (fun m=>(m.path,m.func)))=some (some (#[],some (f,true)))):
  Sem.run Tryz.prog (method (Tryz.prog.types.size+100) 356 (.pointer (some ⟨k,0,none⟩)) a) w=.ok (f,.pointer (some ⟨k,0,none⟩)) w:=by
 obtain⟨i,hi,d⟩:=Option.map_eq_some_iff.1 g;obtain⟨m,c,b⟩:=Option.map_eq_some_iff.1 d;simp only[Prod.mk.injEq]at b;have h:=run_typeInfo (w:=w) hi;have j:=run_underlying Qig w;unfold method;simp only[Sem.run_bind,h,Result.andThen];rw[c];simp only[b.1,b.2];simp[follow,receiverAt,Sem.run_bind,j,Place.get,go_sem]
theorem Qaa:Tryz.prog.types.size+100=488:=by kernel_rfl
theorem Q0C {a:String} {f:FuncId} {k:Nat} {v:Value} {w:World} (c:(Tryz.prog.info? 356).map (fun i=>(i.methods.find? (fun m=>m.name==a)).map (fun m=>(m.path,m.func)))=some (some (#[],some (f,false))))
  (b:w.cell? ⟨k,0,none⟩=some v):Sem.run Tryz.prog (method 488 356 (.pointer (some ⟨k,0,none⟩)) a) w=.ok (f,v) w:=by
 rw[<-Qaa];exact QeH c b
theorem Q7V {a:String} {f:FuncId} {k:Nat} {w:World} (b:(Tryz.prog.info? 356).map (fun i=>(i.methods.find? (fun m=>m.name==a)).map (fun m=>(m.path,m.func)))=some (some (#[],some (f,true)))):
  Sem.run Tryz.prog (method 488 356 (.pointer (some ⟨k,0,none⟩)) a) w=.ok (f,.pointer (some ⟨k,0,none⟩)) w:=by
 rw[<-Qaa];exact Qea b
end Go.Proofs.YteffhdcankkfkaaGreat
