/- Two tables of pairs, held against each other as values. -/
import Derived.ChangeKeysEq
import Derived.Laws.StructEq
import Derived.Test.YtmmhgkkcpjhiiaaDoorQPoolText24
namespace Go.Proofs.YtmmhgkkcpjhiiaaDoor
open Go.ChangeShapes Go.WideShapes Go.ChangeAt Go.RowKit Go.Joins
set_option linter.unusedVariables false
set_option linter.unusedSimpArgs false

def eqPtB (f g : Pt) : Bool := (List.range 8).all (fun i => f i == g i)
theorem idsU : Tryd.prog.underlying 144 = some (.array 2 3) := by kernel_rfl
theorem idsSize : Tryd.prog.cellsOf 3 = 1 := by kernel_rfl
theorem infoIp : (Tryd.prog.info? 146).isSome = true := by kernel_rfl
theorem ipCells : Tryd.prog.cellsOf 146 = 3 := by kernel_rfl
theorem intPart0 (w : World) (a b : Int) : (part 3 #[.int .i64 a, .int .i64 b] 0).run Tryd.prog w = .ok (.int .i64 a) w := run_part_plain w (by kernel_rfl) rfl
theorem intPart1 (w : World) (a b : Int) : (part 3 #[.int .i64 a, .int .i64 b] 1).run Tryd.prog w = .ok (.int .i64 b) w := run_part_plain w (by kernel_rfl) rfl
theorem boolPart (w : World) (s : Bool) (a b : Int) : (part 4 #[.bool s, .int .i64 a, .int .i64 b] 0).run Tryd.prog w = .ok (.bool s) w := run_part_plain w (by kernel_rfl) rfl
theorem eq_ids (d : Nat) (a b a' b' : Int) (w : World) : (Op.equalIn (d + 1 + 1) 144 (.agg #[.int .i64 a, .int .i64 b]) (.agg #[.int .i64 a', .int .i64 b'])).run Tryd.prog w = .ok (a == a' && b == b') w := by
 obtain ⟨i, hi⟩ : ∃ i, Tryd.prog.info? 3 = some i := by
  cases h : Tryd.prog.info? 3 with
  | none => have := infoInt; rw [h] at this; cases this
  | some i => exact ⟨i, rfl⟩
 have hu := Tryd.underlying3
 rw [run_equalIn_array w (d + 1) _ _ idsU hi, idsSize, show List.range 2 = [0, 1] from rfl]
 simp only [Op.eqItems, Nat.zero_mul, Nat.one_mul, Nat.mul_one, Sem.run_bind, intPart0, intPart1, Result.andThen_ok, run_equalIn_int w d 3 .i64 .i64 _ _ hu]
 by_cases h1 : a = a' <;> by_cases h2 : b = b' <;> simp [h1, h2, intPart0, intPart1, Sem.run_bind, run_equalIn_int w d 3 .i64 .i64 _ _ hu]
theorem idsPart (w : World) (s : Bool) (a b : Int) : (part 144 #[.bool s, .int .i64 a, .int .i64 b] 1).run Tryd.prog w = .ok (.agg #[.int .i64 a, .int .i64 b]) w := by
 have h1 : (isAgg 144).run Tryd.prog w = .ok true w := by simp [go_sem]
 have h2 : (sizeOf 144).run Tryd.prog w = .ok 2 w := by
  have hI : (Tryd.prog.info? 144).map (·.size) = some 2 := by kernel_rfl
  cases hq : Tryd.prog.info? 144 with
  | none => simp [hq] at hI
  | some i => simp [hq] at hI; simp [sizeOf, typeInfo, hq, hI]
 simp [part, Sem.run_bind, h1, h2]
theorem eq_ip (d : Nat) (p q : Ip) (w : World) : (Op.equalIn (d + 1 + 1 + 1) 146 (ipv p) (ipv q)).run Tryd.prog w = .ok (p == q) w := by
 obtain ⟨s, a, b⟩ := p
 obtain ⟨s', a', b'⟩ := q
 have hS : Tryd.prog.underlying 146 = some (.struct (Tryd.prog.fieldsOf 146)) := by kernel_rfl
 have hF : (Tryd.prog.fieldsOf 146).toList.map (fun f => (f.name, f.type, f.offset)) = [("some", 4, 0), ("ids", 144, 1)] := by kernel_rfl
 rw [run_equalIn_struct w (d + 1 + 1) 146 _ _ hS (by kernel_rfl)]
 generalize (Tryd.prog.fieldsOf 146).toList = fs at hF ⊢
 match fs, hF with
 | [], hF => simp at hF
 | [_], hF => simp at hF
 | _ :: _ :: _ :: _, hF => simp at hF
 | [f1, f2], hF =>
  simp only [List.map_cons, List.map_nil, List.cons.injEq, Prod.mk.injEq, and_true] at hF
  obtain ⟨⟨n1, t1, o1⟩, n2, t2, o2⟩ := hF
  have hb := Tryd.underlying4
  have hn1 : ¬ (f1.name = "_") := by rw [n1]; decide
  have hn2 : ¬ (f2.name = "_") := by rw [n2]; decide
  have e : ((s, a, b) == (s', a', b')) = (s == s' && (a == a' && b == b')) := rfl
  rw [e]
  simp only [Op.eqFields, ne_eq, hn1, hn2, not_false_eq_true, if_true, t1, t2, o1, o2, Sem.run_bind, boolPart, idsPart, eq_ids, Result.andThen_ok, run_equalIn_bool' w (d + 1) 4 _ _ hb]
  by_cases h1 : s = s'
  ·subst h1
   simp only [beq_self_eq_true, Bool.not_true, Bool.false_eq_true, if_false, Sem.run_bind, idsPart, eq_ids, Result.andThen_ok, Bool.true_and]
   cases hc : (a == a' && b == b') <;> simp
  ·have h1' : (s == s') = false := beq_eq_false_iff_ne.2 h1
   rw [h1']
   simp
theorem ipPart (w : World) (f : Pt) (i : Nat) (h : i < 8) : (part 146 (ptA f) (i * 3)).run Tryd.prog w = .ok (ipv (f i)) w := by
 simp [part, Sem.run_bind, ipAgg, ipSize, ptA_part f i h]
theorem eq_items (d : Nat) (f g : Pt) (w : World) : ∀ is : List Nat, (∀ i ∈ is, i < 8) → (Op.eqItems (d + 1 + 1 + 1) 146 3 (ptA f) (ptA g) is).run Tryd.prog w = .ok (is.all (fun i => f i == g i)) w
 | [], _ => by simp [Op.eqItems]
 | i :: is, h => by
  have hi := h i (by simp)
  simp only [Op.eqItems, Sem.run_bind, ipPart w f i hi, ipPart w g i hi, eq_ip, Result.andThen_ok]
  cases hc : (f i == g i) with
  | false => simp [hc]
  | true => simp only [Bool.not_true, Bool.false_eq_true, if_false]; rw [eq_items d f g w is (fun j hj => h j (by simp [hj]))]; simp [hc]
theorem eq_pt (f g : Pt) (w : World) : (Op.equalIn 10000 148 (ptv f) (ptv g)).run Tryd.prog w = .ok (eqPtB f g) w := by
 have hi := infoIp
 cases hq : Tryd.prog.info? 146 with
 | none => rw [hq] at hi; cases hi
 | some i =>
  rw [show (10000 : Nat) = 9996 + 1 + 1 + 1 + 1 from rfl, run_equalIn_array w (9996 + 1 + 1 + 1) _ _ ptU hq, ipCells]
  exact eq_items 9996 f g w _ (fun i hi => by simpa using hi)
end Go.Proofs.YtmmhgkkcpjhiiaaDoor

