/- The heap of the library over the scoreboard: how its methods are found. -/
import Derived.ChangeKeysEq
import Derived.Test.YtmmhgkkcpjhiiaaDoorQPoolText03
import Derived.Test.YtmmhgkkcpjhiiaaDoorQPoolText06
namespace Go.Proofs.YtmmhgkkcpjhiiaaDoor
open Go.ChangeShapes Go.WideShapes Go.ChangeAt Go.RowKit Go.Joins
set_option linter.unusedVariables false
set_option linter.unusedSimpArgs false

theorem methLess : (Tryd.prog.info? 203).map (fun i => (i.methods.find? (fun m => m.name == "Less")).map (fun m => (m.path, m.func))) = some (some (#[], some (172, false))) := by kernel_rfl
theorem methSwap : (Tryd.prog.info? 203).map (fun i => (i.methods.find? (fun m => m.name == "Swap")).map (fun m => (m.path, m.func))) = some (some (#[], some (175, false))) := by kernel_rfl
theorem methLen : (Tryd.prog.info? 203).map (fun i => (i.methods.find? (fun m => m.name == "Len")).map (fun m => (m.path, m.func))) = some (some (#[], some (171, false))) := by kernel_rfl
theorem methPush : (Tryd.prog.info? 203).map (fun i => (i.methods.find? (fun m => m.name == "Push")).map (fun m => (m.path, m.func))) = some (some (#[], some (174, true))) := by kernel_rfl
theorem methPop : (Tryd.prog.info? 203).map (fun i => (i.methods.find? (fun m => m.name == "Pop")).map (fun m => (m.path, m.func))) = some (some (#[], some (173, true))) := by kernel_rfl
theorem ptrSb : Tryd.prog.underlying 203 = some (.pointer 205) := Tryd.underlying203

theorem wrapchk (ts : Array TypeId) (t : TypeId) (a : Addr) (s1 s2 : String) : Builtin.ssaWrapNilChk_ ts t #[.pointer (some a), strVal s1, strVal s2] = pure (.pointer (some a)) := rfl

set_option maxRecDepth 100000 in
theorem finds_val {name : String} {f : FuncId} {k : Nat} {v : Value} {w : World} (hm : (Tryd.prog.info? 203).map (fun i => (i.methods.find? (fun m => m.name == name)).map (fun m => (m.path, m.func))) = some (some (#[], some (f, false))))
  (hc : w.cell? ⟨k, 0, none⟩ = some v) : Sem.run Tryd.prog (method (Tryd.prog.types.size + 100) 203 (.pointer (some ⟨k, 0, none⟩)) name) w = .ok (f, v) w := by
 obtain ⟨i, hi, hf⟩ := Option.map_eq_some_iff.1 hm
 obtain ⟨m, hm1, hm2⟩ := Option.map_eq_some_iff.1 hf
 simp only [Prod.mk.injEq] at hm2
 have ht := run_typeInfo (w := w) hi
 have hu := run_underlying ptrSb w
 unfold method
 simp only [Sem.run_bind, ht, Result.andThen]
 rw [hm1]
 simp only [hm2.1, hm2.2]
 simp [follow, receiverAt, Sem.run_bind, hu, Place.get, wrapchk, asAddr, hc, go_sem]
set_option maxRecDepth 100000 in
theorem finds_ptr {name : String} {f : FuncId} {k : Nat} {w : World} (hm : (Tryd.prog.info? 203).map (fun i => (i.methods.find? (fun m => m.name == name)).map (fun m => (m.path, m.func))) = some (some (#[], some (f, true)))) :
  Sem.run Tryd.prog (method (Tryd.prog.types.size + 100) 203 (.pointer (some ⟨k, 0, none⟩)) name) w = .ok (f, .pointer (some ⟨k, 0, none⟩)) w := by
 obtain ⟨i, hi, hf⟩ := Option.map_eq_some_iff.1 hm
 obtain ⟨m, hm1, hm2⟩ := Option.map_eq_some_iff.1 hf
 simp only [Prod.mk.injEq] at hm2
 have ht := run_typeInfo (w := w) hi
 have hu := run_underlying ptrSb w
 unfold method
 simp only [Sem.run_bind, ht, Result.andThen]
 rw [hm1]
 simp only [hm2.1, hm2.2]
 simp [follow, receiverAt, Sem.run_bind, hu, Place.get, go_sem]
theorem typesSize : Tryd.prog.types.size + 100 = 338 := by kernel_rfl
theorem finds_val' {name : String} {f : FuncId} {k : Nat} {v : Value} {w : World} (hm : (Tryd.prog.info? 203).map (fun i => (i.methods.find? (fun m => m.name == name)).map (fun m => (m.path, m.func))) = some (some (#[], some (f, false))))
  (hc : w.cell? ⟨k, 0, none⟩ = some v) : Sem.run Tryd.prog (method 338 203 (.pointer (some ⟨k, 0, none⟩)) name) w = .ok (f, v) w := by
 rw [← typesSize]; exact finds_val hm hc
theorem finds_ptr' {name : String} {f : FuncId} {k : Nat} {w : World} (hm : (Tryd.prog.info? 203).map (fun i => (i.methods.find? (fun m => m.name == name)).map (fun m => (m.path, m.func))) = some (some (#[], some (f, true)))) :
  Sem.run Tryd.prog (method 338 203 (.pointer (some ⟨k, 0, none⟩)) name) w = .ok (f, .pointer (some ⟨k, 0, none⟩)) w := by
 rw [← typesSize]; exact finds_ptr hm
end Go.Proofs.YtmmhgkkcpjhiiaaDoor

