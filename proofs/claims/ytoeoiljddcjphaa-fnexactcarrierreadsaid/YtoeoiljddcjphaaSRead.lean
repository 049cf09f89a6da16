/- PacketRead on both sides: a plain function, and the contracts. -/
import Derived.Test.YtoeoiljddcjphaaSPBytes
import Derived.Test.YtoeoiljddcjphaaSConv
namespace Go.Proofs.Ytoeoiljddcjphaa
open Go.ChangeShapes Go.WideShapes Go.ChangeAt Go.RowKit Go.Joins
set_option linter.unusedVariables false
set_option linter.unusedSimpArgs false

theorem pairAt0 (o : Option Addr) (cap : Nat) (l : List Int) (w : World) (hR : Rd w o l) (hB8 : isB l) (hlen : l.length ≤ 1048576) (hi : 0 < l.length) :
    Calls Try.prog 70 #[.slice o l.length cap, .int .i64 0] w fun e w' => e = .returned (.int .i64 (pairLS l 0)) ∧ w = w' := by
  have := pairAt_any o cap l 0 w hR hB8 hlen hi
  simpa using this
theorem pairAt2 (o : Option Addr) (cap : Nat) (l : List Int) (w : World) (hR : Rd w o l) (hB8 : isB l) (hlen : l.length ≤ 1048576) (hi : 2 < l.length) :
    Calls Try.prog 70 #[.slice o l.length cap, .int .i64 2] w fun e w' => e = .returned (.int .i64 (pairLS l 2)) ∧ w = w' := by
  have := pairAt_any o cap l 2 w hR hB8 hlen hi
  simpa using this
theorem pairAt4 (o : Option Addr) (cap : Nat) (l : List Int) (w : World) (hR : Rd w o l) (hB8 : isB l) (hlen : l.length ≤ 1048576) (hi : 4 < l.length) :
    Calls Try.prog 70 #[.slice o l.length cap, .int .i64 4] w fun e w' => e = .returned (.int .i64 (pairLS l 4)) ∧ w = w' := by
  have := pairAt_any o cap l 4 w hR hB8 hlen hi
  simpa using this

set_option maxRecDepth 100000 in
set_option maxHeartbeats 400000 in
theorem unpack_any (o : Option Addr) (cap : Nat) (L : List Int) (w : World) (hR : Rd w o L) (hB8 : isB L) (h10 : 10 ≤ L.length) (hlen : L.length ≤ 1048576) (hcap : L.length ≤ cap) (hcm : cap ≤ maxLen) :
    Calls Try.prog 68 #[.slice o L.length cap] w fun e w' => ∃ v, e = .returned (pkt (pairLS L 0) (pairLS L 2) (L.getD 6 0) (pairLS L 4) v) ∧ ownB w' w.heap.size v (L.drop 10) ∧ Below w.heap.size w w' := by
  have hR0 := hR
  rcases hR with hR | ⟨b, off, rfl, hbl, hcell⟩
  · subst hR; simp at h10
  unfold maxLen at hcm
  have c6 := hcell 6 (by omega)
  have b6 := hB8.get 6
  have hi6 : (6 : Int) < (L.length : Int) := by omega
  have hi10 : (10 : Int) ≤ (L.length : Int) := by omega
  by_cases hc10 : cap = 10
  · subst hc10
    have hRo : Rd w (some ⟨b, off, none⟩) (L.drop 10) := .inl (List.drop_eq_nil_of_le (by omega))
    have E5 := empty5_new w 26
    have p0 := hide (fun w h => pairAt0 (some ⟨b, off, none⟩) 10 L w h hB8 hlen (by omega))
    have p2 := hide (fun w h => pairAt2 (some ⟨b, off, none⟩) 10 L w h hB8 hlen (by omega))
    have p4 := hide (fun w h => pairAt4 (some ⟨b, off, none⟩) 10 L w h hB8 hlen (by omega))
    generalize hx6 : L.getD 6 0 = x6 at *
    clear hx6 hcell
    have hw6 := wrap_i64 x6 b6.1 (by omega)
    have HW6 := hide hw6
    clear hw6
    go_enter Try.func68, Try.ntmps68
    go_wp2
    generalize hw0 : w.alloc (.cells #[.int .i64 0, .int .i64 0, .int .i64 0, .int .i64 0, .slice none 0 0] 26) = w0 at *
    have hk0 : w.heap.size < w0.heap.size := by rw [← hw0]; simp
    have hsz0 : w0.heap.size = w.heap.size + 1 := by rw [← hw0]; simp
    have HZ := hide hsz0
    have hB0 : Below w.heap.size w w0 := by rw [← hw0]; exact (Below.refl _ _).alloc (Nat.le_refl _) _
    clear hw0 hsz0
    have hRd0 : Rd w0.drew (some ⟨b, off, none⟩) L := hR0.kept (Below.drew hB0)
    replace c6 : w0.cell? ⟨b, off + 6, none⟩ = some (.int .u8 x6) := (hB0.cell (p := ⟨b, off + 6, none⟩) hbl).trans c6
    have c6d : w0.drew.cell? ⟨b, off + 6, none⟩ = some (.int .u8 x6) := c6
    have hne : b ≠ w.heap.size := by omega
    have E50 := E5
    obtain ⟨⟨e0, e1, e2, e3, e4⟩, f0, f1, f2, f3, f4⟩ := E50
    go_region_held3 (fun w' => w'.cell? ⟨b, off + 6, none⟩ = some (.int .u8 x6)) (first | with_reducible exact d6 | with_reducible exact c6 | with_reducible exact c6d | with_reducible exact far_box hne d6) (first | (go_at_call_of 70 (Value.int .i64 0); refine (p0.out _ ?_).mono ?_; (first | exact hRd1 | exact hRd0); rintro e w2 ⟨rfl, rfl⟩) | (go_at_call_of 70 (Value.int .i64 2); refine (p2.out _ ?_).mono ?_; (first | exact hRd1 | exact hRd0); rintro e w2 ⟨rfl, rfl⟩) | (go_at_call_of 70 (Value.int .i64 4); refine (p4.out _ ?_).mono ?_; (first | exact hRd1 | exact hRd0); rintro e w2 ⟨rfl, rfl⟩) | (refine step_append_bytes rfl (.const (.slice none 0 0)) (.tmp 15) rfl (w.heap.size + 1) _ [] rfl (World.ownsRow_nil _ _ _ _) (some ⟨b, off, none⟩) 0 (L.drop 10) 0 (by simp; omega) (by simp [Act.eval, Act.put]) (by simp) (hRo.kept (by exact Below.drew hB0)) (by simp; omega) (by have := HZ.out; simp; omega) ?_; intro v1 w1 hv1 hb1; obtain ⟨ov, cv, hve, hro⟩ := hv1.open; rw [hve] at hv1 ⊢; replace hb1 : Below (w.heap.size + 1) w0 w1 := (Below.drew (Below.refl _ _)).trans hb1; have d6 := (hb1.cell (p := ⟨b, off + 6, none⟩) (Nat.lt_succ_of_lt hbl)).trans c6; have E51 := E5.kept hb1 (Nat.lt_succ_self _); obtain ⟨⟨d0, d1, d2, d3, d4⟩, g0, g1, g2, g3, g4⟩ := E51))
    go_wp2
    refine bodyPost_ret (v := pkt (pairLS L 0) (pairLS L 2) x6 (pairLS L 4) (.slice ov (L.drop 10).length cv)) (by simp [results, Try.results68, go_sem, d0, d1, d2, d3, d4]; exact ⟨HW6.out, by omega⟩) rfl ⟨_, rfl, ?_, ?_⟩
    · refine own_mono (base := w.heap.size + 1) ?_ (Nat.le_succ _)
      repeat (refine ownsRow_setCell_below ?_ (Nat.lt_succ_self _) _)
      exact hv1
    · refine Below.setCell (Below.setCell (Below.setCell (Below.setCell (Below.setCell (hB0.trans (hb1.mono (Nat.le_succ _))) ?_ _) ?_ _) ?_ _) ?_ _) ?_ _ <;> exact Nat.le_refl _
  · have hRo : Rd w (some ⟨b, off + 10, none⟩) (L.drop 10) := by
      right
      refine ⟨b, off + 10, rfl, hbl, fun i hi => ?_⟩
      have h1 := hcell (10 + i) (by simp at hi; omega)
      rw [Nat.add_assoc, h1]
      simp [List.getD_eq_getElem?_getD]
    have E5 := empty5_new w 26
    have p0 := hide (fun w h => pairAt0 (some ⟨b, off, none⟩) cap L w h hB8 hlen (by omega))
    have p2 := hide (fun w h => pairAt2 (some ⟨b, off, none⟩) cap L w h hB8 hlen (by omega))
    have p4 := hide (fun w h => pairAt4 (some ⟨b, off, none⟩) cap L w h hB8 hlen (by omega))
    generalize hx6 : L.getD 6 0 = x6 at *
    clear hx6 hcell
    have hw6 := wrap_i64 x6 b6.1 (by omega)
    have HW6 := hide hw6
    clear hw6
    go_enter Try.func68, Try.ntmps68
    go_wp2
    generalize hw0 : w.alloc (.cells #[.int .i64 0, .int .i64 0, .int .i64 0, .int .i64 0, .slice none 0 0] 26) = w0 at *
    have hk0 : w.heap.size < w0.heap.size := by rw [← hw0]; simp
    have hsz0 : w0.heap.size = w.heap.size + 1 := by rw [← hw0]; simp
    have HZ := hide hsz0
    have hB0 : Below w.heap.size w w0 := by rw [← hw0]; exact (Below.refl _ _).alloc (Nat.le_refl _) _
    clear hw0 hsz0
    have hRd0 : Rd w0.drew (some ⟨b, off, none⟩) L := hR0.kept (Below.drew hB0)
    replace c6 : w0.cell? ⟨b, off + 6, none⟩ = some (.int .u8 x6) := (hB0.cell (p := ⟨b, off + 6, none⟩) hbl).trans c6
    have c6d : w0.drew.cell? ⟨b, off + 6, none⟩ = some (.int .u8 x6) := c6
    have hne : b ≠ w.heap.size := by omega
    have E50 := E5
    obtain ⟨⟨e0, e1, e2, e3, e4⟩, f0, f1, f2, f3, f4⟩ := E50
    go_region_held3 (fun w' => w'.cell? ⟨b, off + 6, none⟩ = some (.int .u8 x6)) (first | with_reducible exact d6 | with_reducible exact c6 | with_reducible exact c6d | with_reducible exact far_box hne d6) (first | (go_at_call_of 70 (Value.int .i64 0); refine (p0.out _ ?_).mono ?_; (first | exact hRd1 | exact hRd0); rintro e w2 ⟨rfl, rfl⟩) | (go_at_call_of 70 (Value.int .i64 2); refine (p2.out _ ?_).mono ?_; (first | exact hRd1 | exact hRd0); rintro e w2 ⟨rfl, rfl⟩) | (go_at_call_of 70 (Value.int .i64 4); refine (p4.out _ ?_).mono ?_; (first | exact hRd1 | exact hRd0); rintro e w2 ⟨rfl, rfl⟩) | (refine step_append_bytes rfl (.const (.slice none 0 0)) (.tmp 15) rfl (w.heap.size + 1) _ [] rfl (World.ownsRow_nil _ _ _ _) (some ⟨b, off + 10, none⟩) (cap - 10) (L.drop 10) (L.length - 10) (by simp) (by simp [Act.eval, Act.put]) (by simp) (hRo.kept (by exact Below.drew hB0)) (by simp; omega) (by have := HZ.out; simp; omega) ?_; intro v1 w1 hv1 hb1; obtain ⟨ov, cv, hve, hro⟩ := hv1.open; rw [hve] at hv1 ⊢; replace hb1 : Below (w.heap.size + 1) w0 w1 := (Below.drew (Below.refl _ _)).trans hb1; have d6 := (hb1.cell (p := ⟨b, off + 6, none⟩) (Nat.lt_succ_of_lt hbl)).trans c6; have E51 := E5.kept hb1 (Nat.lt_succ_self _); obtain ⟨⟨d0, d1, d2, d3, d4⟩, g0, g1, g2, g3, g4⟩ := E51))
    go_wp2
    refine bodyPost_ret (v := pkt (pairLS L 0) (pairLS L 2) x6 (pairLS L 4) (.slice ov (L.drop 10).length cv)) (by simp [results, Try.results68, go_sem, d0, d1, d2, d3, d4]; exact HW6.out) rfl ⟨_, rfl, ?_, ?_⟩
    · refine own_mono (base := w.heap.size + 1) ?_ (Nat.le_succ _)
      repeat (refine ownsRow_setCell_below ?_ (Nat.lt_succ_self _) _)
      exact hv1
    · refine Below.setCell (Below.setCell (Below.setCell (Below.setCell (Below.setCell (hB0.trans (hb1.mono (Nat.le_succ _))) ?_ _) ?_ _) ?_ _) ?_ _) ?_ _ <;> exact Nat.le_refl _

end Go.Proofs.Ytoeoiljddcjphaa
