/- The library's Delete at rows of backs. -/
import Derived.Deep.RegionLaw
import Derived.Test.YtmmhgkkcpjhiiaaGreatQLearn24
namespace Go.Proofs.YtmmhgkkcpjhiiaaGreat
open Go.ChangeShapes Go.WideShapes Go.ChangeAt Go.RowKit Go.Joins
set_option linter.unusedVariables false
set_option linter.unusedSimpArgs false

variable {α : Type}
theorem RdL.drop0 {L : Lay α} {C : Nat} {w : World} {b off : Nat} {l : List α} (h : RdL L C w (some ⟨b, off, none⟩) l) (k q : Nat) (hq : q = off + k * L.k) : RdL L C w (some ⟨b, q, none⟩) (l.drop k) := by
 subst hq
 rcases h with h | ⟨b', off', ho, hlt, r⟩
 ·left; rw [h]; simp
 ·obtain ⟨rfl, rfl⟩ : b = b' ∧ off = off' := by simpa using ho
  refine .inr ⟨b, off + k * L.k, rfl, hlt, fun i hi j hj => ?_⟩
  have hi' : k + i < l.length := by simp at hi; omega
  have := r (k + i) hi' j hj
  rw [Nat.add_mul, ← Nat.add_assoc] at this
  rw [this]
  congr 2
  simp [List.getD_eq_getElem?_getD, List.getElem?_drop]
theorem own_prefix {L : Lay α} {e : TypeId} {w : World} {base g cap : Nat} {l : List α} (hv : ownL L e w base (.slice (some ⟨g, 0, none⟩) l.length cap) l) (i : Nat) (hi : i ≤ l.length) : ownL L e w base (.slice (some ⟨g, 0, none⟩) i cap) (l.take i) := by
 have hlen : (l.take i).length = i := by simp; omega
 rcases hv.2 with ⟨h1, _⟩ | ⟨g', c', cur, h1, hb, hc, h4, h5, h6, h7⟩
 ·cases h1
 ·injection h1 with h1 _ h3
  injection h1 with h1
  injection h1 with h1 _ _
  subst h1 h3
  refine ⟨by rw [flat_length], .inr ⟨g, cap, cur, by rw [hlen], hb, hc, by omega, h5, h6, ?_⟩⟩
  rw [hlen]
  have e1 : cur.toList.take (i * L.k) = (cur.toList.take (l.length * L.k)).take (i * L.k) := by
   rw [List.take_take, Nat.min_eq_left (Nat.mul_le_mul_right _ hi)]
  rw [e1, h7]
  have e2 : l.flatMap L.cs = (l.take i).flatMap L.cs ++ (l.drop i).flatMap L.cs := by rw [← List.flatMap_append, List.take_append_drop]
  rw [e2]
  exact List.take_left' (by rw [flat_length, hlen])
theorem step_append_fits {L : Lay α} {t e : TypeId} (ok : AppOk L t e) {ops : Array Oper} {o : Oper} {a : Act} {w : World} {K : Act → World → Prop} {Q : Exit → Act → World → Prop} {E : Prop} (hgd : o.guard = none) (s x : Operand)
  (ho : o.op = .call { callee := .builtin .append, args := #[s, x], argTypes := #[t, t] }) (base g n cap : Nat) (l0 : List α) (hn0 : n = l0.length) (hs : a.eval s = .slice (some ⟨g, 0, none⟩) n cap) (hown : ownL L e w base (.slice (some ⟨g, 0, none⟩) n cap) l0)
  (ad : Addr) (c C : Nat) (l : List α) (m : Nat) (hm : m = l.length) (hx : a.eval x = .slice (some ad) m c) (hR : RdL L C w (some ad) l) (hroom : n + m ≤ cap)
  (h : ∀ w', ownL L e w' base (.slice (some ⟨g, 0, none⟩) (n + m) cap) (l0 ++ l) → w.grownBy w' (some g) → K (a.put o.dst (.slice (some ⟨g, 0, none⟩) (n + m) cap)) w') : if Region.wanted o (yielded ops a.tmps) = true then Oper.wp Tryz.prog o a w K Q else E := by
 subst hm hn0
 have hw : Region.wanted o (yielded ops a.tmps) = true := by simp [Region.wanted, hgd]
 rw [if_pos hw]
 obtain ⟨z, bytes, hinfo, hzs, hby⟩ := ok.info
 obtain ⟨i0, hi, hz0, hz1, hz2⟩ := info_parts hinfo
 obtain ⟨w', hr, h1, h2⟩ := run_append_fits (P := Tryz.prog) w base t o.type e i0 L.k ok.under hi hz1 g _ cap _ hown ad l.length c (l.flatMap L.cs) (flat_length L l) (hR.news ok.pos) (flat_one' ok.one l) hroom
 unfold Oper.wp execOp
 simp only [ho, resolve, invoke, builtin, Sem.run_bind, Sem.run_pure, Result.andThen_ok, List.map_toArray, List.map_cons, List.map_nil, hs, hx, hr]
 exact h w' (by unfold ownL; simpa using h1) h2

theorem zeroBack (w : World) : (zeroValue 178).run Tryz.prog w = .ok (.agg #[.int .i64 0, .int .i64 0, .bool false]) w := by kernel_rfl
theorem clear_behind {w : World} {base g cap n : Nat} {xs : List Value} (hv : w.ownsRow base 178 3 (.slice (some ⟨g, 0, none⟩) n cap) n xs) (hroom : n + 1 ≤ cap) (ty : TypeId) (c : Nat) :
  ∃ w', Sem.run Tryz.prog (Builtin.clear_ #[26] ty #[.slice (some ⟨g, n * 3, none⟩) 1 c]) w = .ok (.tuple #[]) w' ∧ w'.ownsRow base 178 3 (.slice (some ⟨g, 0, none⟩) n cap) n xs ∧ w.grownBy w' (some g) := by
 rcases hv.2 with ⟨h1, _⟩ | ⟨g', c', cur, h1, hb, hc, h4, h5, h6, h7⟩
 ·cases h1
 ·injection h1 with h1 _ h3
  injection h1 with h1
  injection h1 with h1 _ _
  subst h1 h3
  have hzc : (Builtin.zeroCells (Value.agg #[.int .i64 0, .int .i64 0, .bool false]).cells 1).toList = [.int .i64 0, .int .i64 0, .bool false] := by first | kernel_rfl | (simp [Builtin.zeroCells, Value.cells]; done) | decide
  have hst := run_storeCells_at (P := Tryz.prog) g (n * 3) 178 [.int .i64 0, .int .i64 0, .bool false] 0 cur w hc (by simp; omega) (by intro v hv; simp at hv; rcases hv with rfl | rfl | rfl <;> rfl)
  refine ⟨_, by simp [Builtin.clear_, run_underlying Tryz.underlying26, zeroBack, hzc, hst]; rfl, ⟨hv.1, .inr ⟨g, cap, _, rfl, hb, setRow_heap w g cur _ 178 _ hc, h4, h5, ?_, ?_⟩⟩, ⟨rfl, rfl, rfl, by simp, fun k _ hk => setRow_other w g k _ (fun e => hk (by simp [e]))⟩⟩
  ·simp; omega
  ·simp only [Nat.add_zero, List.append_assoc]
   rw [List.take_append_of_le_length (by simp; omega), List.take_take, Nat.min_self]
   exact h7

set_option maxRecDepth 100000 in
set_option maxHeartbeats 4000000 in
theorem slicesDelete_any (base g cap i : Nat) (l : List Bk) (w : World) (hv : ownK w base (.slice (some ⟨g, 0, none⟩) l.length cap) l) (hi : i < l.length) (hl : l.length ≤ 1000) :
  Calls Tryz.prog 335 #[.slice (some ⟨g, 0, none⟩) l.length cap, .int .i64 i, .int .i64 ((i : Int) + 1)] w fun e w' => ∃ v, e = .returned v ∧ ownK w' base v (l.take i ++ l.drop (i + 1)) ∧ w.grownBy w' (some g) := by
 have hcap : l.length ≤ cap := by
  rcases hv.2 with ⟨h1, _⟩ | ⟨g', c', cur, h1, _, _, h4, _⟩
  ·cases h1
  ·injection h1 with _ _ h3; omega
 have z0 : (i : Int) < (l.length : Int) := by omega
 have z1 : (i : Int) + 1 ≤ (l.length : Int) := by omega
 have z2 : 0 ≤ (i : Int) + 1 := by omega
 have n1 : i + 1 ≤ l.length := by omega
 have n2 : i ≤ l.length := by omega
 have n3 : i ≤ cap := by omega
 have n4 : i + 1 ≤ cap := by omega
 have n5 : ((i : Int) == (i : Int) + 1) = false := by simp; omega
 have HV := hide hv
 have FA : ownK w.drew base (.slice (some ⟨g, 0, none⟩) i cap) (l.take i) := own_prefix hv i n2
 have FR : RdK w.heap.size w.drew (if cap = i + 1 then some ⟨g, 0, none⟩ else some ⟨g, (i + 1) * 3, none⟩) (l.drop (i + 1)) := by
  have hr : RdK w.heap.size w (some ⟨g, 0, none⟩) l := ownL.rd (L := layK) hv
  split
  ·left; exact List.drop_eq_nil_of_le (by omega)
  ·have h := hr.drop0 (i + 1) ((i + 1) * 3) (by simp [layK])
   exact h
 have HFA := hide FA
 have HFR := hide FR
 clear FA FR hv
 go_enter Tryz.func335, Tryz.ntmps335
 go_wp2
 obtain ⟨ad, had⟩ : ∃ ad, (if cap = i + 1 then some (⟨g, 0, none⟩ : Addr) else some ⟨g, (i + 1) * 3, none⟩) = some ad := by split <;> exact ⟨_, rfl⟩
 rw [had] at HFR
 go_region_law (first | (refine step_append_fits appK0 rfl _ _ rfl base g i cap (l.take i) ?h0 rfl HFA.out ad (cap - (i + 1)) w.heap.size (l.drop (i + 1)) (l.length - (i + 1)) ?h1 rfl HFR.out ?h2 ?_; (case h0 => (simp; omega)); (case h1 => simp); (case h2 => omega); intro w8 hv8 hg8; have hv8 := hide hv8; have hg8 := hide hg8))
 all_goals (
  have hln : l.length = (i + (l.length - (i + 1))) + 1 := by omega
  generalize i + (l.length - (i + 1)) = n' at *
  have hv9 : w8.ownsRow base 178 3 (.slice (some ⟨g, 0, none⟩) n' cap) n' ((l.take i ++ l.drop (i + 1)).flatMap layK.cs) := by
   have h := hv8.out
   unfold ownL at h
   rwa [show (l.take i ++ l.drop (i + 1)).length = n' by simp; omega] at h
  have HV9 := hide hv9
  have m1 : n' + 1 ≤ cap := by omega
  have m2 : ¬ (cap = n') := by omega
  obtain ⟨w10, hcl, hv10, hg10⟩ := clear_behind hv9 m1 0 (cap - n')
  have HV10 := hide hv10
  have HG10 := hide hg10
  have HLN := hide hln
  clear HFA HFR had HV HV9 hv9 hv8 hv10 hg10
  go_wp2
  go_ret
  refine ⟨_, rfl, ?_, ?_⟩
  ·have h := HV10.out
   unfold ownK ownL
   rw [show (l.take i ++ l.drop (i + 1)).length = n' by have := HLN.out; simp; omega]
   exact h
  ·have h := hg8.out
   exact World.grownBy.trans ⟨h.os, h.tape, h.output, h.size, h.block⟩ HG10.out)

end Go.Proofs.YtmmhgkkcpjhiiaaGreat

