/- The heap of the library over the scoreboard: how its methods are found. -/
import Derived.ChangeKeysEq
import Derived.Test.YtgplppfbinfelaaGreatQOldest03
import Derived.Test.YtgplppfbinfelaaGreatQOldest04
namespace Go.Proofs.YtgplppfbinfelaaGreat
open Go.ChangeShapes Go.WideShapes Go.ChangeAt Go.RowKit Go.Joins
set_option linter.unusedVariables false
set_option linter.unusedSimpArgs false
set_option maxRecDepth 100000
set_option maxHeartbeats 40000000
theorem methLess:(Tryz.prog.info? 357).map (fun i=> (i.methods.find? (fun m=> m.name== "Less")).map (fun m=> (m.path,m.func)))=some (some (#[],some (296,false))):=by kernel_rfl
theorem methSwap:(Tryz.prog.info? 357).map (fun i=> (i.methods.find? (fun m=> m.name== "Swap")).map (fun m=> (m.path,m.func)))=some (some (#[],some (299,false))):=by kernel_rfl
theorem methLen:(Tryz.prog.info? 357).map (fun i=> (i.methods.find? (fun m=> m.name== "Len")).map (fun m=> (m.path,m.func)))=some (some (#[],some (295,false))):=by kernel_rfl
theorem methPush:(Tryz.prog.info? 357).map (fun i=> (i.methods.find? (fun m=> m.name== "Push")).map (fun m=> (m.path,m.func)))=some (some (#[],some (298,true))):=by kernel_rfl
theorem methPop:(Tryz.prog.info? 357).map (fun i=> (i.methods.find? (fun m=> m.name== "Pop")).map (fun m=> (m.path,m.func)))=some (some (#[],some (297,true))):=by kernel_rfl
theorem ptrSb:Tryz.prog.underlying 357=some (.pointer 359):=Tryz.underlying357
theorem wrapchk (ts:Array TypeId) (t:TypeId) (a:Addr) (s1 s2:String):Builtin.ssaWrapNilChk_ ts t #[.pointer (some a),strVal s1,strVal s2]=pure (.pointer (some a)):=rfl
theorem finds_val {name:String} {f:FuncId} {k:Nat} {v:Value} {w:World} (hm:(Tryz.prog.info? 357).map (fun i=> (i.methods.find? (fun m=> m.name==name)).map (fun m=> (m.path,m.func)))=some (some (#[],some (f,false))))
  (hc:w.cell? ⟨k,0,none⟩=some v):Sem.run Tryz.prog (method (Tryz.prog.types.size+100) 357 (.pointer (some ⟨k,0,none⟩)) name) w=.ok (f,v) w:=by
 obtain ⟨i,hi,hf⟩:=Option.map_eq_some_iff.1 hm
 obtain ⟨m,hm1,hm2⟩:=Option.map_eq_some_iff.1 hf
 simp only [Prod.mk.injEq] at hm2
 have ht:=run_typeInfo (w:=w) hi
 have hu:=run_underlying ptrSb w
 unfold method
 simp only [Sem.run_bind,ht,Result.andThen]
 rw [hm1]
 simp only [hm2.1,hm2.2]
 simp [follow,receiverAt,Sem.run_bind,hu,Place.get,wrapchk,asAddr,hc,go_sem]
theorem finds_ptr {name:String} {f:FuncId} {k:Nat} {w:World} (hm:(Tryz.prog.info? 357).map (fun i=> (i.methods.find? (fun m=> m.name==name)).map (fun m=> (m.path,m.func)))=some (some (#[],some (f,true)))):
  Sem.run Tryz.prog (method (Tryz.prog.types.size+100) 357 (.pointer (some ⟨k,0,none⟩)) name) w=.ok (f,.pointer (some ⟨k,0,none⟩)) w:=by
 obtain ⟨i,hi,hf⟩:=Option.map_eq_some_iff.1 hm
 obtain ⟨m,hm1,hm2⟩:=Option.map_eq_some_iff.1 hf
 simp only [Prod.mk.injEq] at hm2
 have ht:=run_typeInfo (w:=w) hi
 have hu:=run_underlying ptrSb w
 unfold method
 simp only [Sem.run_bind,ht,Result.andThen]
 rw [hm1]
 simp only [hm2.1,hm2.2]
 simp [follow,receiverAt,Sem.run_bind,hu,Place.get,go_sem]
theorem typesSize:Tryz.prog.types.size+100=489:=by kernel_rfl
theorem finds_val' {name:String} {f:FuncId} {k:Nat} {v:Value} {w:World} (hm:(Tryz.prog.info? 357).map (fun i=> (i.methods.find? (fun m=> m.name==name)).map (fun m=> (m.path,m.func)))=some (some (#[],some (f,false))))
  (hc:w.cell? ⟨k,0,none⟩=some v):Sem.run Tryz.prog (method 489 357 (.pointer (some ⟨k,0,none⟩)) name) w=.ok (f,v) w:=by
 rw [←typesSize];exact finds_val hm hc
theorem finds_ptr' {name:String} {f:FuncId} {k:Nat} {w:World} (hm:(Tryz.prog.info? 357).map (fun i=> (i.methods.find? (fun m=> m.name==name)).map (fun m=> (m.path,m.func)))=some (some (#[],some (f,true)))):
  Sem.run Tryz.prog (method 489 357 (.pointer (some ⟨k,0,none⟩)) name) w=.ok (f,.pointer (some ⟨k,0,none⟩)) w:=by
 rw [←typesSize];exact finds_ptr hm
end Go.Proofs.YtgplppfbinfelaaGreat
