/- The program's nextToGo: which hint leaves first. -/
import Derived.Test.YtpjkcgaohoinaaaGreatQLearn19
import Derived.Test.YtpjkcgaohoinaaaGreatQLearn23
import Derived.Test.YtpjkcgaohoinaaaGreatQLearn32
import Derived.Test.YtpjkcgaohoinaaaGreatQLearn04
namespace Go.Proofs.YtpjkcgaohoinaaaGreat
open Go.ChangeShapes Go.WideShapes Go.ChangeAt Go.RowKit Go.Joins
set_option linter.unusedVariables false
set_option linter.unusedSimpArgs false

def lvT (l : List Sl) (now : Int) (j : Nat) : Int := max (at' l j).t now
def nxTo (l : List Sl) (now : Int) (j : Nat) : List Sc := ((List.range j).filter (fun i => (at' l i).u)).map (fun i => (lvT l now i, (i : Int)))
theorem nxTo_mem {l : List Sl} {now : Int} {j : Nat} {z : Sc} : z ∈ nxTo l now j ↔ ∃ i, i < j ∧ (at' l i).u = true ∧ (lvT l now i, (i : Int)) = z := by
 simp [nxTo, and_assoc]
theorem nxTo_yes {l : List Sl} {now : Int} {j : Nat} (h : (at' l j).u = true) : nxTo l now (j + 1) = nxTo l now j ++ [(lvT l now j, (j : Int))] := by
 have e : List.filter (fun i => (at' l i).u) [j] = [j] := by show (match (at' l j).u with | true => j :: [] | false => []) = [j]; rw [h]
 unfold nxTo; rw [List.range_succ, List.filter_append, List.map_append, e]; rfl
theorem nxTo_no {l : List Sl} {now : Int} {j : Nat} (h : (at' l j).u = false) : nxTo l now (j + 1) = nxTo l now j := by
 unfold nxTo; rw [List.range_succ, List.filter_append, List.map_append, List.filter_cons_of_neg (by rw [h]; decide)]; simp
theorem nxTo_new {l : List Sl} {now : Int} {j : Nat} : (lvT l now j, (j : Int)) ∉ nxTo l now j := fun h => by
 obtain ⟨i, hi, _, e⟩ := nxTo_mem.1 h
 have := (Prod.mk.inj e).2
 omega
def NextTo (l : List Sl) (now : Int) (j : Nat) : Prop := j < l.length ∧ (at' l j).u = true ∧ ∀ i, i < l.length → (at' l i).u = true → 16 * lvT l now j + (j : Int) ≤ 16 * lvT l now i + (i : Int)
def NoneTo (l : List Sl) : Prop := ∀ i, i < l.length → (at' l i).u = false
theorem Dep.BrdV.kept {k : Nat} {v : Value} {w w' : World} {l : List Sc} (h : Dep.BrdV k v w l) (hb : Below w.heap.size w w') : Dep.BrdV k v w' l := ⟨(hb.block k h.lt).trans h.box, own_kept h.row hb⟩
theorem top_next {l : List Sl} {now : Int} {lb : List Sc} (hh : Dep.HeapP lb lb.length) (hd : Holds lb (nxTo l now l.length)) (hp : 0 < lb.length) : ∃ j, NextTo l now j ∧ lb.getD 0 (0, 0) = (lvT l now j, (j : Int)) := by
 have h0 := (hd.2.1 (lb.getD 0 (0, 0))).1 ⟨0, hp, rfl⟩
 obtain ⟨j, hj, hu, e⟩ := nxTo_mem.1 h0
 refine ⟨j, ⟨hj, hu, fun i hi hui => ?_⟩, e.symm⟩
 obtain ⟨q, hq, eq⟩ := (hd.2.1 (lvT l now i, (i : Int))).2 (nxTo_mem.2 ⟨i, hi, hui, rfl⟩)
 have ht := Dep.heap_top hh q hq
 unfold Dep.fr at ht
 rw [← e, eq] at ht
 exact ht
theorem none_next {l : List Sl} {now : Int} {lb : List Sc} (hd : Holds lb (nxTo l now l.length)) (hp : lb.length = 0) : NoneTo l := fun i hi => by
 cases hu : (at' l i).u with
 | false => rfl
 | true =>
  obtain ⟨q, hq, _⟩ := (hd.2.1 (lvT l now i, (i : Int))).2 (nxTo_mem.2 ⟨i, hi, hu, rfl⟩)
  omega

set_option maxRecDepth 100000 in
set_option maxHeartbeats 4000000 in
theorem nextToGo_any (b off c n : Nat) (l : List Sl) (now : Int) (w : World) (hn : l.length = n) (h16 : n ≤ 16) (hbl : b < w.heap.size) (hc : ∀ i, i < l.length → ∀ j, j < layS.k → w.cell? ⟨b, off + i * layS.k + j, none⟩ = (layS.cs (l.getD i layS.d))[j]?) :
  Calls Tryz.prog 67 #[tab (.slice (some ⟨b, off, none⟩) n c), .int .i64 now] w fun e w' => ((∃ j, NextTo l now j ∧ e = .returned (.tuple #[.agg #[.int .i64 (lvT l now j), .int .i64 j], .bool true])) ∨ (NoneTo l ∧ e = .returned (.tuple #[.agg #[.int .i64 0, .int .i64 0], .bool false]))) ∧ Below w.heap.size w w' := by
 obtain ⟨Wa, hWa⟩ : ∃ W, (w.alloc (.cells #[.slice (some ⟨b, off, none⟩) n c] 74)) = W := ⟨_, rfl⟩
 obtain ⟨Wb, hWb⟩ : ∃ W, (Wa.alloc (.cells #[.int .i64 0, .int .i64 0] 117)) = W := ⟨_, rfl⟩
 obtain ⟨W0, hW0⟩ : ∃ W, (Wb.alloc (.cells #[.slice none 0 0] 171)) = W := ⟨_, rfl⟩
 have ha : Wa.heap.size = w.heap.size + 1 := by rw [← hWa]; simp
 have hb' : Wb.heap.size = w.heap.size + 2 := by rw [← hWb]; simp [ha]
 have hs0 : W0.heap.size = w.heap.size + 3 := by rw [← hW0]; simp [hb']
 have ba : Below w.heap.size w Wa := by rw [← hWa]; exact (Below.refl _ _).alloc (Nat.le_refl _) _
 have bb : Below Wa.heap.size Wa Wb := by rw [← hWb]; exact (Below.refl _ _).alloc (Nat.le_refl _) _
 have bc : Below Wb.heap.size Wb W0 := by rw [← hW0]; exact (Below.refl _ _).alloc (Nat.le_refl _) _
 have hB0 : Below w.heap.size w W0 := (ba.trans (bb.mono (by omega))).trans (bc.mono (by omega))
 have k0 : W0.heap[w.heap.size]? = some (.cells #[.slice (some ⟨b, off, none⟩) n c] 74 (0, 0)) := by
  rw [bc.block _ (by omega), bb.block _ (by omega), ← hWa]; exact heap_alloc_new w _
 have k1 : W0.heap[w.heap.size + 1]? = some (.cells #[.int .i64 0, .int .i64 0] 117 (0, 0)) := by
  rw [bc.block _ (by omega), ← hWb, ← ha]; exact heap_alloc_new Wa _
 have k2 : W0.heap[w.heap.size + 2]? = some (.cells #[.slice none 0 0] 171 (0, 0)) := by
  rw [← hW0, ← hb']; exact heap_alloc_new Wb _
 subst hWa hWb
 clear ha hb' ba bb bc
 have z0 : W0.cell? ⟨w.heap.size, 0, none⟩ = some (.slice (some ⟨b, off, none⟩) n c) := by simp [World.cell?, k0]
 have HK1 := hide k1
 have HK2 := hide k2
 have HB0 := hide hB0
 have HN := hide hn
 have HC := hide hc
 clear k0 k1 k2 hB0 hn hc
 go_enter Tryz.func67, Tryz.ntmps67
 go_wp2
 go_loopw [14] (fun iv wr => ∃ (j : Nat) (v : Value) (lb : List Sc), iv = .int .i64 j ∧ j ≤ n ∧ Dep.BrdV (w.heap.size + 2) v wr lb ∧ Dep.HeapP lb lb.length ∧ Dep.okD lb ∧ Holds lb (nxTo l now j) ∧ lb.length ≤ j ∧ Below (w.heap.size + 2) W0 wr)
  (fun iv _ => n - (intOf iv).toNat)
 case atStart =>
  refine ⟨0, .slice none 0 0, [], rfl, Nat.zero_le _, ⟨HK2.out, World.ownsRow_nil _ _ _ _⟩, fun i h1 h2 => by simp at h2, fun i hi => by simp at hi, ⟨rfl, fun z => by simp [nxTo], fun i j hi => by simp at hi⟩, Nat.zero_le _, Below.refl _ _⟩
 case round =>
  obtain ⟨j, v, lb, rfl, hj, hb, hh, ho, hhd, hlb, hBr⟩ := hrel
  by_cases hlt : j < n
  ·have hcl := HC.out j (by rw [HN.out]; exact hlt)
   have hq : ∀ q u, q < 5 → (layS.cs (at' l j))[q]? = some u → wr.cell? ⟨b, off + j * 5 + q, none⟩ = some u := fun q u hq e => by
    have h1 := hcl q hq
    have h2 := HB0.out.cell (p := ⟨b, off + j * layS.k + q, none⟩) hbl
    have h3 := hBr.cell (p := ⟨b, off + j * layS.k + q, none⟩) (show b < w.heap.size + 2 by omega)
    exact h3.trans (h2.trans (h1.trans e))
   obtain ⟨su, sa, sp, sv, st, hsl⟩ : ∃ su sa sp sv st, at' l j = ⟨su, sa, sp, sv, st⟩ := ⟨_, _, _, _, _, rfl⟩
   have c0 : wr.cell? ⟨b, off + j * 5, none⟩ = some (.bool su) := hq 0 _ (by decide) (by rw [hsl]; rfl)
   have c1 : wr.cell? ⟨b, off + j * 5 + 1, none⟩ = some (.int .i64 sa) := hq 1 _ (by decide) (by rw [hsl]; rfl)
   have c2 : wr.cell? ⟨b, off + j * 5 + 2, none⟩ = some (.int .i64 sp) := hq 2 _ (by decide) (by rw [hsl]; rfl)
   have c3 : wr.cell? ⟨b, off + j * 5 + 3, none⟩ = some (.int .i64 sv) := hq 3 _ (by decide) (by rw [hsl]; rfl)
   have c4 : wr.cell? ⟨b, off + j * 5 + 4, none⟩ = some (.int .i64 st) := hq 4 _ (by decide) (by rw [hsl]; rfl)
   clear hq hcl
   have hsr := hBr.size
   cases su with
   | false =>
    have HH := hide (show Holds lb (nxTo l now (j + 1)) by rw [nxTo_no (by rw [hsl])]; exact hhd)
    have HB := hide hb
    have HBr := hide hBr
    clear hhd hb hBr hsl
    go_wp2
    go_roundw
    case rel => exact ⟨j + 1, v, lb, by go_num, by omega, HB.out.kept ((Below.refl _ _).alloc (Nat.le_refl _) _), hh, ho, HH.out, by omega, HBr.out.alloc (by omega) _⟩
    case measure => simp [intOf]; omega
   | true =>
    obtain ⟨W1, hW1⟩ : ∃ W, (wr.alloc (.cells #[.bool true, .int .i64 sa, .int .i64 sp, .int .i64 sv, .int .i64 st] 164)) = W := ⟨_, rfl⟩
    have hbA : Below wr.heap.size wr W1 := by rw [← hW1]; exact (Below.refl _ _).alloc (Nat.le_refl _) _
    have kx : W1.heap[wr.heap.size]? = some (.cells #[.bool true, .int .i64 sa, .int .i64 sp, .int .i64 sv, .int .i64 st] 164 (0, 0)) := by rw [← hW1]; exact heap_alloc_new wr _
    have x0 : W1.cell? ⟨wr.heap.size, 0, none⟩ = some (.bool true) := by simp [World.cell?, kx]
    have x4 : W1.cell? ⟨wr.heap.size, 4, none⟩ = some (.int .i64 st) := by simp [World.cell?, kx]
    clear kx
    by_cases h9 : st < now
    ·skip
     have hmx : lvT l now j = now := by unfold lvT; rw [hsl]; simp only; omega
     have HH := hide (fun l2 (h2 : Same (lb ++ [(now, (j : Int))]) l2 (lb.length + 1)) => (show Holds l2 (nxTo l now (j + 1)) by rw [nxTo_yes (by rw [hsl]), hmx]; exact hhd.push (by have h8 := nxTo_new (l := l) (now := now) (j := j); rw [hmx] at h8; exact h8) h2))
     have HL := hide (fun l2 (h2 : Same (lb ++ [(now, (j : Int))]) l2 (lb.length + 1)) => (show l2.length ≤ j + 1 by rw [h2.1]; simp; omega))
     have HPU := hide (Dep.pushH_any (w.heap.size + 2) v lb now j W1 (hb.kept hbA) ho ⟨by simp, by simp; omega⟩ hh (by omega))
     have HBB := hide (hBr.trans (hbA.mono (by omega)))
     clear hhd hb hBr hsl hmx hbA
     go_wp2_with fail
     refine HPU.out.mono ?_
     rintro e w2 ⟨rfl, g2, c2', l2, hb2, hh2, hs2, ho2, hB2⟩
     have HR := hide (And.intro hb2 (And.intro hh2 (And.intro hs2 (And.intro ho2 hB2))))
     clear hb2 hh2 hs2 ho2 hB2 c0 c1 c2 c3 c4 x0 x4 HPU
     go_wp2
     go_roundw
     case rel => exact ⟨j + 1, _, l2, by go_num, by omega, HR.out.1.v, HR.out.2.1, HR.out.2.2.2.1, HH.out l2 HR.out.2.2.1, HL.out l2 HR.out.2.2.1, HBB.out.trans HR.out.2.2.2.2⟩
     case measure => simp [intOf]; omega
    ·skip
     have hmx : lvT l now j = st := by unfold lvT; rw [hsl]; simp only; omega
     have HH := hide (fun l2 (h2 : Same (lb ++ [(st, (j : Int))]) l2 (lb.length + 1)) => (show Holds l2 (nxTo l now (j + 1)) by rw [nxTo_yes (by rw [hsl]), hmx]; exact hhd.push (by have h8 := nxTo_new (l := l) (now := now) (j := j); rw [hmx] at h8; exact h8) h2))
     have HL := hide (fun l2 (h2 : Same (lb ++ [(st, (j : Int))]) l2 (lb.length + 1)) => (show l2.length ≤ j + 1 by rw [h2.1]; simp; omega))
     have HPU := hide (Dep.pushH_any (w.heap.size + 2) v lb st j W1 (hb.kept hbA) ho ⟨by simp, by simp; omega⟩ hh (by omega))
     have HBB := hide (hBr.trans (hbA.mono (by omega)))
     clear hhd hb hBr hsl hmx hbA
     go_wp2_with fail
     refine HPU.out.mono ?_
     rintro e w2 ⟨rfl, g2, c2', l2, hb2, hh2, hs2, ho2, hB2⟩
     have HR := hide (And.intro hb2 (And.intro hh2 (And.intro hs2 (And.intro ho2 hB2))))
     clear hb2 hh2 hs2 ho2 hB2 c0 c1 c2 c3 c4 x0 x4 HPU
     go_wp2
     go_roundw
     case rel => exact ⟨j + 1, _, l2, by go_num, by omega, HR.out.1.v, HR.out.2.1, HR.out.2.2.2.1, HH.out l2 HR.out.2.2.1, HL.out l2 HR.out.2.2.1, HBB.out.trans HR.out.2.2.2.2⟩
     case measure => simp [intOf]; omega
  ·have e : j = n := by omega
   subst e
   rw [← HN.out] at hhd
   have hbk1 : wr.heap[w.heap.size + 1]? = some (.cells #[.int .i64 0, .int .i64 0] 117 (0, 0)) := (hBr.block (w.heap.size + 1) (by omega)).trans HK1.out
   have hz := hBr.size
   obtain ⟨ov, cv, hve⟩ := hb.slice
   subst hve
   have hbc := hb.cell
   by_cases h0 : lb.length = 0
   ·have HNN := hide (none_next hhd h0)
    have f0 : wr.frozen? ⟨w.heap.size + 1, 0, none⟩ = false := by simp [World.frozen?, hbk1]
    have f1 : wr.frozen? ⟨w.heap.size + 1, 1, none⟩ = false := by simp [World.frozen?, hbk1]
    have y0 : wr.cell? ⟨w.heap.size + 1, 0, none⟩ = some (.int .i64 0) := by simp [World.cell?, hbk1]
    have y1 : wr.cell? ⟨w.heap.size + 1, 1, none⟩ = some (.int .i64 0) := by simp [World.cell?, hbk1]
    have HBr := hide (HB0.out.trans (hBr.mono (by omega)))
    rw [h0] at hbc
    clear hhd hb hBr hbk1 h0
    go_wp2_with (go_at_call 105; refine (Dep.dpLen_any _ _ _ _).mono ?_; rintro e w9 ⟨rfl, rfl⟩)
    refine bodyPost_ret (v := .tuple #[.agg #[.int .i64 0, .int .i64 0], .bool false]) (by simp [results, Tryz.results67, go_sem, y0, y1]) rfl ⟨.inr ⟨HNN.out, rfl⟩, ?_⟩
    exact (HBr.out.setCell (p := ⟨w.heap.size + 1, 0, none⟩) (by simp) _).setCell (p := ⟨w.heap.size + 1, 1, none⟩) (by simp) _
   ·obtain ⟨i, hNi, hei⟩ := top_next hh hhd (by omega)
    have hne : ¬ ((lb.length : Int) = 0) := by omega
    obtain ⟨gq, cq, e9⟩ := ownsRow_form hb.row (by omega)
    injection e9 with e8 _ e7
    subst e8 e7
    have hbrd : Dep.Brd (w.heap.size + 2) gq cv wr lb := ⟨hb.box, hb.row⟩
    obtain ⟨nq, hnq⟩ : ∃ nq, nq + 1 = lb.length := ⟨lb.length - 1, by omega⟩
    have HPO := hide (Dep.popH_any (w.heap.size + 2) gq cv lb nq wr hbrd hnq ho hh (by omega))
    rw [hei] at HPO
    have HNX := hide hNi
    have HBr := hide (HB0.out.trans (hBr.mono (by omega)))
    have HK := hide hbk1
    obtain ⟨lv, hlv⟩ : ∃ x, lvT l now i = x := ⟨_, rfl⟩
    rw [hlv] at HPO
    have HLV := hide hlv
    obtain ⟨nl, hnl⟩ : ∃ x, lb.length = x := ⟨_, rfl⟩
    rw [hnl] at hbc hne
    have ta := fun t0 => Dep.assertSc t0 lv i
    clear hhd hb hBr hbk1 h0 hNi hei hbrd hnq hlv hnl hh ho hlb
    go_wp2_with (go_at_call 105; refine (Dep.dpLen_any _ _ _ _).mono ?_; rintro e w9 ⟨rfl, rfl⟩)
    go_wp2_with fail
    refine HPO.out.mono ?_
    rintro e w3 ⟨rfl, hB3⟩
    have hk3 : w3.heap[w.heap.size + 1]? = some (.cells #[.int .i64 0, .int .i64 0] 117 (0, 0)) := (hB3.block (w.heap.size + 1) (by omega)).trans HK.out
    have f0 : w3.frozen? ⟨w.heap.size + 1, 0, none⟩ = false := by simp [World.frozen?, hk3]
    have f1 : w3.frozen? ⟨w.heap.size + 1, 1, none⟩ = false := by simp [World.frozen?, hk3]
    have y0 : w3.cell? ⟨w.heap.size + 1, 0, none⟩ = some (.int .i64 0) := by simp [World.cell?, hk3]
    have y1 : w3.cell? ⟨w.heap.size + 1, 1, none⟩ = some (.int .i64 0) := by simp [World.cell?, hk3]
    have HB3 := hide (HBr.out.trans (hB3.mono (by omega)))
    clear hB3 hk3 HK HPO HBr hbc
    go_wp2
    refine bodyPost_ret (v := .tuple #[.agg #[.int .i64 lv, .int .i64 i], .bool true]) (by simp [results, Tryz.results67, go_sem, y0, y1]) rfl ⟨.inl ⟨i, HNX.out, by rw [HLV.out]⟩, ?_⟩
    exact (HB3.out.setCell (p := ⟨w.heap.size + 1, 0, none⟩) (by simp) _).setCell (p := ⟨w.heap.size + 1, 1, none⟩) (by simp) _
end Go.Proofs.YtpjkcgaohoinaaaGreat

