/- Hints that are due go: the program's dropDue over hints. -/
import Derived.Test.YtpjkcgaohoinaaaGreatQBalTick35
import Derived.Test.YtpjkcgaohoinaaaGreatQBalTick36
import Derived.Test.YtpjkcgaohoinaaaGreatQBalTick32
namespace Go.Proofs.YtpjkcgaohoinaaaGreat
open Go.ChangeShapes Go.WideShapes Go.ChangeAt Go.RowKit Go.Joins
set_option linter.unusedVariables false
set_option linter.unusedSimpArgs false

/-- What nextToGo has told of m. -/
def ToldN (m : List Sl) (now u j : Int) (s : Bool) : Prop := (∃ i : Nat, NextTo m now i ∧ u = lvT m now i ∧ j = (i : Int) ∧ s = true) ∨ (NoneTo m ∧ s = false)
theorem told_of {m : List Sl} {now : Int} {e : Ending} (h : (∃ j, NextTo m now j ∧ e = .returned (.tuple #[.agg #[.int .i64 (lvT m now j), .int .i64 j], .bool true])) ∨ (NoneTo m ∧ e = .returned (.tuple #[.agg #[.int .i64 0, .int .i64 0], .bool false]))) : ∃ u j s, e = .returned (.tuple #[.agg #[.int .i64 u, .int .i64 j], .bool s]) ∧ ToldN m now u j s := by
 rcases h with ⟨j, h, rfl⟩ | ⟨h, rfl⟩
 ·exact ⟨_, _, _, rfl, .inl ⟨j, h, rfl, rfl, rfl⟩⟩
 ·exact ⟨_, _, _, rfl, .inr ⟨h, rfl⟩⟩
theorem Stp.then_new {lo hi P : Nat} {w a b : World} (h : Stp lo hi w a) (s : Stp P (P + 1) a b) (hP : w.heap.size ≤ P) : Stp lo hi w b :=
 ⟨s.os.trans h.os, s.tape.trans h.tape, s.output.trans h.output, Nat.le_trans h.size s.size, fun k hk hn => (s.block k (Nat.lt_of_lt_of_le hk h.size) (.inl (by omega))).trans (h.block k hk hn)⟩
theorem own_stp {w w' : World} {base g n c m P size : Nat} {e : TypeId} {xs : List Value} (h : w.ownsRow base e size (.slice (some ⟨g, 0, none⟩) n c) m xs) (s : Stp P (P + 1) w w') (hg : g < P) : w'.ownsRow base e size (.slice (some ⟨g, 0, none⟩) n c) m xs := by
 obtain ⟨hl, h0 | ⟨g', cap, cur, hv, hb, hh, r⟩⟩ := h
 ·exact absurd h0.1 (by simp)
 ·have e9 : g = g' := by simp at hv; exact hv.1
  subst e9
  exact ⟨hl, .inr ⟨g, cap, cur, hv, hb, (s.block g (Array.getElem?_eq_some_iff.1 hh).1 (.inl hg)).trans hh, r⟩⟩
set_option maxRecDepth 100000 in
set_option maxHeartbeats 4000000 in
theorem dropDueH_any (g c base n : Nat) (l : List Sl) (now : Int) (w : World) (hn : l.length = n) (hok : tableOkB l = true) (ho : w.ownsRow base CellT 5 (.slice (some ⟨g, 0, none⟩) n c) n (l.flatMap layS.cs)) :
  Calls Tryz.prog 42 #[tab (.slice (some ⟨g, 0, none⟩) n c), .int .i64 now] w fun e w' => e = .returned (.int .i64 ((expL l now).2 : Nat)) ∧ w'.ownsRow base CellT 5 (.slice (some ⟨g, 0, none⟩) n c) n ((expL l now).1.flatMap layS.cs) ∧ Stp g (g + 1) w w' := by
 have hgw := (ho.lt g rfl).2
 have HO := hide ho
 have h16 : n ≤ 16 := by have := (tableOkB_iff.1 hok).2.1; omega
 have HInv0 := hide (ExpInv.start (now := now) hok)
 rw [hn] at HInv0
 clear ho
 obtain ⟨W0, hW0⟩ : ∃ W, (w.alloc (.cells #[.slice (some ⟨g, 0, none⟩) n c] 74)) = W := ⟨_, rfl⟩
 have hb_W0 : Below w.heap.size w W0 := by rw [← hW0]; exact ((Below.refl _ _).alloc (Nat.le_refl _) _)
 replace HO := hide (own_kept HO.out hb_W0)
 have HB := hide hb_W0
 clear hb_W0
 have zct : w.heap.size < W0.heap.size := by rw [← hW0]; simp
 have ct0 : W0.cell? ⟨w.heap.size, 0, none⟩ = some (.slice (some ⟨g, 0, none⟩) n c) := by rw [← hW0]; simp [go_sem]
 have hfd := nextToGo_any g 0 c n l now W0 hn h16 (HO.out.lt g rfl).2 (rd_of_own HO.out hn.symm)
 go_enter Tryz.func42, Tryz.ntmps42
 go_wp2_with fail
 refine (hfd).mono ?_
 rintro e v1 ⟨ht, hb⟩
 obtain ⟨u1, j1, s1, rfl, ht1⟩ := told_of ht
 replace ct0 : v1.cell? ⟨w.heap.size, 0, none⟩ = some (.slice (some ⟨g, 0, none⟩) n c) := (hb.cell (p := ⟨w.heap.size, 0, none⟩) zct).trans ct0
 replace zct : w.heap.size < v1.heap.size := Nat.lt_of_lt_of_le zct hb.size
 replace HO := hide (own_kept HO.out hb)
 replace HB := hide (HB.out.trans (hb.mono HB.out.size))
 clear hb ht
 obtain ⟨W1, hW1⟩ : ∃ W, (v1.alloc (.cells #[.int .i64 u1, .int .i64 j1] 117)) = W := ⟨_, rfl⟩
 have hb_W1 : Below v1.heap.size v1 W1 := by rw [← hW1]; exact ((Below.refl _ _).alloc (Nat.le_refl _) _)
 have kb1 : W1.heap[v1.heap.size]? = some (.cells #[.int .i64 u1, .int .i64 j1] 117 (0, 0)) := by rw [← hW1]; exact heap_alloc_new v1 _
 have HS0 : Hid (∃ (m : List Sl) (d : Nat) (K : Nat) (u j : Int) (s : Bool), Value.int .i64 0 = .int .i64 d ∧ Value.pointer (some ⟨v1.heap.size, 0, none⟩) = .pointer (some ⟨K, 0, none⟩) ∧ Value.bool s1 = .bool s ∧ Hid (ToldN m now u j s) ∧ Hid (W1.heap[K]? = some (.cells #[.int .i64 u, .int .i64 j] 117 (0, 0))) ∧ w.heap.size < K ∧ Hid (ExpInv n now (expL l now) (cnt l) m d) ∧ Hid (W1.ownsRow base CellT 5 (.slice (some ⟨g, 0, none⟩) n c) n (m.flatMap layS.cs)) ∧ Hid (W1.cell? ⟨w.heap.size, 0, none⟩ = some (.slice (some ⟨g, 0, none⟩) n c)) ∧ w.heap.size < W1.heap.size ∧ Hid (Stp g (g + 1) w W1)) :=
  ⟨l, 0, v1.heap.size, u1, j1, s1, rfl, rfl, rfl, ht1, kb1, zct, HInv0.out, own_kept HO.out hb_W1, (hb_W1.cell (p := ⟨w.heap.size, 0, none⟩) zct).trans ct0, Nat.lt_of_lt_of_le zct hb_W1.size, Stp.of (HB.out.trans (hb_W1.mono HB.out.size))⟩
 clear hfd kb1 hb_W1 HInv0 HO HB ht1
 go_wp2
 go_loopg [5, 6, 7] (cnt l) (fun gk dv pv sv wr => ∃ (m : List Sl) (d : Nat) (K : Nat) (u j : Int) (s : Bool), dv = .int .i64 d ∧ pv = .pointer (some ⟨K, 0, none⟩) ∧ sv = .bool s ∧ Hid (ToldN m now u j s) ∧ Hid (wr.heap[K]? = some (.cells #[.int .i64 u, .int .i64 j] 117 (0, 0))) ∧ w.heap.size < K ∧ Hid (ExpInv n now (expL l now) gk m d) ∧ Hid (wr.ownsRow base CellT 5 (.slice (some ⟨g, 0, none⟩) n c) n (m.flatMap layS.cs)) ∧ Hid (wr.cell? ⟨w.heap.size, 0, none⟩ = some (.slice (some ⟨g, 0, none⟩) n c)) ∧ w.heap.size < wr.heap.size ∧ Hid (Stp g (g + 1) w wr))
 case atStart => exact HS0.out
 case round =>
  clear HS0 ct0 zct
  obtain ⟨m, d, K, u, j, s, rfl, rfl, rfl, HTo, HK, hK, HI, HO, HC, zct, HSt⟩ := hrel
  have ct0 := HC.out
  have hml := hide HI.out.len
  have ku : wr.cell? ⟨K, 0, none⟩ = some (.int .i64 u) := by simp [World.cell?, HK.out]
  have kj : wr.cell? ⟨K, 1, none⟩ = some (.int .i64 j) := by simp [World.cell?, HK.out]
  have hend : Hid (dueAt m now = none → (expL l now) = (m, d)) := fun h => HI.out.done h
  rcases HTo.out with ⟨i, hN, rfl, rfl, rfl⟩ | ⟨hN, rfl⟩
  ·by_cases hd : lvT m now i ≤ now
   ·have hdue := next_due (by rw [hml.out]; exact h16) hN hd
    obtain ⟨hg, hin, hu, hc16, hNx⟩ := HI.out.step hdue
    have HN := hide hNx
    have HF := hide (flowsOk_of HI.out.ok)
    obtain ⟨uu, huu⟩ : ∃ x, lvT m now i = x := ⟨_, rfl⟩
    rw [huu] at ku hd HK
    have HK2 := hide (Array.getElem?_eq_some_iff.1 HK.out).1
    clear hNx hu hdue hN HTo huu hend
    go_wp2_with fail
    refine (dropAt_any g c base n i m wr hml.out h16 hin HF.out HO.out).mono ?_
    rintro e W2 ⟨⟨v, rfl⟩, ho2, hst⟩
    have HO2 := hide ho2
    have HSt2 := hide (HSt.out.trans hst)
    have hgK : K ≠ g := by omega
    have kb2 : W2.heap[K]? = some (.cells #[.int .i64 uu, .int .i64 (i : Int)] 117 (0, 0)) := (hst.block K HK2.out (by omega)).trans HK.out
    have ku2 : W2.cell? ⟨K, 0, none⟩ = some (.int .i64 uu) := by simp [World.cell?, kb2]
    have kj2 : W2.cell? ⟨K, 1, none⟩ = some (.int .i64 (i : Int)) := by simp [World.cell?, kb2]
    have ct2 : W2.cell? ⟨w.heap.size, 0, none⟩ = some (.slice (some ⟨g, 0, none⟩) n c) := hst.cell ct0 zct (.inr (by omega))
    have zct2 : w.heap.size < W2.heap.size := Nat.lt_of_lt_of_le zct hst.size
    obtain ⟨W3, hW3⟩ : ∃ W, (W2.alloc (.cells #[.int .i64 uu, .int .i64 (i : Int)] 117)) = W := ⟨_, rfl⟩
    have hb3 : Below W2.heap.size W2 W3 := by rw [← hW3]; exact ((Below.refl _ _).alloc (Nat.le_refl _) _)
    have kb3 : W3.heap[W2.heap.size]? = some (.cells #[.int .i64 uu, .int .i64 (i : Int)] 117 (0, 0)) := by rw [← hW3]; exact heap_alloc_new W2 _
    have ct3 : W3.cell? ⟨w.heap.size, 0, none⟩ = some (.slice (some ⟨g, 0, none⟩) n c) := (hb3.cell (p := ⟨w.heap.size, 0, none⟩) zct2).trans ct2
    have ho3 := own_kept ho2 hb3
    have hfd := nextToGo_any g 0 c n (dropAtL m i) now W3 (by rw [dropAtL_length, hml.out]) h16 (ho3.lt g rfl).2 (rd_of_own ho3 (by rw [dropAtL_length, hml.out]))
    have HO3 := hide ho3
    have HKB := hide kb3
    have HSt3 := hide (HSt2.out.trans (Stp.of hb3))
    have zct3 : w.heap.size < W3.heap.size := Nat.lt_of_lt_of_le zct2 hb3.size
    have hlt3 : W2.heap.size < W3.heap.size := by rw [← hW3]; simp
    clear ho2 hst ct0 kb2 ho3 kb3 hb3 HO2 HSt2 ku kj
    go_wp2_with fail
    refine hfd.mono ?_
    rintro e W4 ⟨ht, hb4⟩
    obtain ⟨u4, j4, s4, rfl, ht4⟩ := told_of ht
    have kb4 := (hb4.block W2.heap.size hlt3).trans HKB.out
    have kf0 : W4.frozen? ⟨W2.heap.size, 0, none⟩ = false := by simp [World.frozen?, kb4]
    have kf1 : W4.frozen? ⟨W2.heap.size, 1, none⟩ = false := by simp [World.frozen?, kb4]
    have ke0 : W4.cell? ⟨W2.heap.size, 0, none⟩ = some (.int .i64 uu) := by simp [World.cell?, kb4]
    have ke1 : W4.cell? ⟨W2.heap.size, 1, none⟩ = some (.int .i64 (i : Int)) := by simp [World.cell?, kb4]
    obtain ⟨W5, hW5⟩ : ∃ W, ((W4.setCell ⟨W2.heap.size, 0, none⟩ (.int .i64 u4)).setCell ⟨W2.heap.size, 1, none⟩ (.int .i64 j4)) = W := ⟨_, rfl⟩
    have HEND : Hid (∃ (m9 : List Sl) (d9 : Nat) (K : Nat) (u j : Int) (s : Bool), Value.int .i64 ((d : Int) + 1) = .int .i64 d9 ∧ Value.pointer (some ⟨W2.heap.size, 0, none⟩) = .pointer (some ⟨K, 0, none⟩) ∧ Value.bool s4 = .bool s ∧ Hid (ToldN m9 now u j s) ∧ Hid (W5.heap[K]? = some (.cells #[.int .i64 u, .int .i64 j] 117 (0, 0))) ∧ w.heap.size < K ∧ Hid (ExpInv n now (expL l now) (gk - 1) m9 d9) ∧ Hid (W5.ownsRow base CellT 5 (.slice (some ⟨g, 0, none⟩) n c) n (m9.flatMap layS.cs)) ∧ Hid (W5.cell? ⟨w.heap.size, 0, none⟩ = some (.slice (some ⟨g, 0, none⟩) n c)) ∧ w.heap.size < W5.heap.size ∧ Hid (Stp g (g + 1) w W5)) := by
     have hs4 := hb4.size
     have ss : Stp W2.heap.size (W2.heap.size + 1) W4 W5 := by rw [← hW5]; exact (stp_setC W4 W2.heap.size 0 _).trans (stp_setC _ W2.heap.size 1 _)
     refine ⟨dropAtL m i, d + 1, W2.heap.size, u4, j4, s4, by simp, rfl, rfl, ht4, ?_, zct2, HN.out, ?_, ?_, ?_, ?_⟩
     ·unfold Hid
      rw [← hW5]
      have h1 := block_setCell (i := 0) kb4 (.int .i64 u4)
      have h2 := block_setCell (i := 1) h1 (.int .i64 j4)
      exact h2
     ·exact own_stp (own_kept HO3.out hb4) ss (by omega)
     ·exact ss.cell ((hb4.cell (p := ⟨w.heap.size, 0, none⟩) zct3).trans ct3) (by omega) (.inl zct2)
     ·have := ss.size; omega
     ·exact (HSt3.out.trans (Stp.of hb4)).then_new ss (by omega)
    clear hb4 hfd ct2 ct3 kb4 ht4 ht HO3 HKB HSt3
    go_wp2
    go_roundg (gk - 1)
    case measure => omega
    case rel => exact HEND.out
   ·have hnd := next_not (by rw [hml.out]; exact h16) hN hd
    have HD := hide (hend.out hnd)
    obtain ⟨uu, huu⟩ : ∃ x, lvT m now i = x := ⟨_, rfl⟩
    rw [huu] at ku hd
    clear hnd hN HTo hend huu
    go_wp2
    go_ret
    exact ⟨by rw [HD.out]; rfl, by rw [HD.out]; exact HO.out, HSt.out⟩
  ·have HD := hide (hend.out (none_due hN))
   clear hN HTo hend
   go_wp2
   go_ret
   exact ⟨by rw [HD.out]; rfl, by rw [HD.out]; exact HO.out, HSt.out⟩

end Go.Proofs.YtpjkcgaohoinaaaGreat

