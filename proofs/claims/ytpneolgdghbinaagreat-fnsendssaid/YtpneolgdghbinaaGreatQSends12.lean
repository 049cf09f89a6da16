/- The heap of the library over the scoreboard: how its methods are found. -/
import Derived.ChangeKeysEq
import Derived.Test.YtpneolgdghbinaaGreatQSends03
import Derived.Test.YtpneolgdghbinaaGreatQSends09
namespace Go.Proofs.YtpneolgdghbinaaGreat
open Go.ChangeShapes Go.WideShapes Go.ChangeAt Go.RowKit Go.Joins
set_option linter.unusedVariables false
set_option linter.unusedSimpArgs false
set_option maxRecDepth 100000
set_option maxHeartbeats 40000000
theorem Q4R:(Tryz.prog.info? 262).map (fun i=> (i.methods.find? (fun m=> m.name== "Less")).map (fun m=> (m.path,m.func)))=some (some (#[],some (215,false))):=by kernel_rfl
theorem Q53:(Tryz.prog.info? 262).map (fun i=> (i.methods.find? (fun m=> m.name== "Swap")).map (fun m=> (m.path,m.func)))=some (some (#[],some (218,false))):=by kernel_rfl
theorem Q8J:(Tryz.prog.info? 262).map (fun i=> (i.methods.find? (fun m=> m.name== "Len")).map (fun m=> (m.path,m.func)))=some (some (#[],some (214,false))):=by kernel_rfl
theorem QeH:(Tryz.prog.info? 262).map (fun i=> (i.methods.find? (fun m=> m.name== "Push")).map (fun m=> (m.path,m.func)))=some (some (#[],some (217,true))):=by kernel_rfl
theorem Qh4:(Tryz.prog.info? 262).map (fun i=> (i.methods.find? (fun m=> m.name== "Pop")).map (fun m=> (m.path,m.func)))=some (some (#[],some (216,true))):=by kernel_rfl
theorem Qha:Tryz.prog.underlying 262=some (.pointer 264):=Tryz.underlying262
theorem Qgy (ts:Array TypeId) (t:TypeId) (a:Addr) (s1 s2:String):Builtin.ssaWrapNilChk_ ts t #[.pointer (some a),strVal s1,strVal s2]=pure (.pointer (some a)):=rfl
theorem Qe1 {name:String} {f:FuncId} {k:Nat} {v:Value} {w:World} (hm:(Tryz.prog.info? 262).map (fun i=> (i.methods.find? (fun m=> m.name==name)).map (fun m=> (m.path,m.func)))=some (some (#[],some (f,false))))
  (hc:w.cell? ⟨k,0,none⟩=some v):Sem.run Tryz.prog (method (Tryz.prog.types.size+100) 262 (.pointer (some ⟨k,0,none⟩)) name) w=.ok (f,v) w:=by
 obtain ⟨i,hi,hf⟩:=Option.map_eq_some_iff.1 hm;obtain ⟨m,hm1,hm2⟩:=Option.map_eq_some_iff.1 hf
 simp only [Prod.mk.injEq] at hm2
 have ht:=run_typeInfo (w:=w) hi;have hu:=run_underlying Qha w
 unfold method
 simp only [Sem.run_bind,ht,Result.andThen]
 rw [hm1]
 simp only [hm2.1,hm2.2]
 simp [follow,receiverAt,Sem.run_bind,hu,Place.get,Qgy,asAddr,hc,go_sem]
theorem QdN {name:String} {f:FuncId} {k:Nat} {w:World} (hm:(Tryz.prog.info? 262).map (fun i=> (i.methods.find? (fun m=> m.name==name)).map (fun m=> (m.path,m.func)))=some (some (#[],some (f,true)))):
  Sem.run Tryz.prog (method (Tryz.prog.types.size+100) 262 (.pointer (some ⟨k,0,none⟩)) name) w=.ok (f,.pointer (some ⟨k,0,none⟩)) w:=by
 obtain ⟨i,hi,hf⟩:=Option.map_eq_some_iff.1 hm;obtain ⟨m,hm1,hm2⟩:=Option.map_eq_some_iff.1 hf
 simp only [Prod.mk.injEq] at hm2
 have ht:=run_typeInfo (w:=w) hi;have hu:=run_underlying Qha w
 unfold method
 simp only [Sem.run_bind,ht,Result.andThen]
 rw [hm1]
 simp only [hm2.1,hm2.2]
 simp [follow,receiverAt,Sem.run_bind,hu,Place.get,go_sem]
theorem Q9p:Tryz.prog.types.size+100=383:=by kernel_rfl
theorem Q0N {name:String} {f:FuncId} {k:Nat} {v:Value} {w:World} (hm:(Tryz.prog.info? 262).map (fun i=> (i.methods.find? (fun m=> m.name==name)).map (fun m=> (m.path,m.func)))=some (some (#[],some (f,false))))
  (hc:w.cell? ⟨k,0,none⟩=some v):Sem.run Tryz.prog (method 383 262 (.pointer (some ⟨k,0,none⟩)) name) w=.ok (f,v) w:=by
 rw [←Q9p];exact Qe1 hm hc
theorem Q7F {name:String} {f:FuncId} {k:Nat} {w:World} (hm:(Tryz.prog.info? 262).map (fun i=> (i.methods.find? (fun m=> m.name==name)).map (fun m=> (m.path,m.func)))=some (some (#[],some (f,true)))):
  Sem.run Tryz.prog (method 383 262 (.pointer (some ⟨k,0,none⟩)) name) w=.ok (f,.pointer (some ⟨k,0,none⟩)) w:=by
 rw [←Q9p];exact QdN hm
end Go.Proofs.YtpneolgdghbinaaGreat
