/- What is drawn for FnPackets: a packet, and bytes. -/
import Derived.Test.YtdoijnmgnocjaaaDoorSDraw5
import Derived.Test.YtdoijnmgnocjaaaDoorSPBytes
import Derived.Test.YtdoijnmgnocjaaaDoorPktMath
import Derived.Test.YtdoijnmgnocjaaaDoorApp
namespace Go.Proofs.YtdoijnmgnocjaaaDoor
open Go.ChangeShapes Go.WideShapes Go.ChangeAt Go.RowKit Go.Joins
set_option linter.unusedVariables false
set_option linter.unusedSimpArgs false

set_option maxHeartbeats 1000000 in
theorem drawPacketBytes_any (o : Option Addr) (cap : Nat) (l : List Int) (w : World) (hR : Rd w o l) (hB8 : isB l) (hm : l.length ≤ maxLen) :
    Calls Tryd.prog 7 #[.slice o l.length cap] w fun e w' => ∃ (a b f s : Int) (v : Value) (L : List Int), e = .returned (pkt a b f s v) ∧ ownB w' w.heap.size v L ∧ isB L ∧ L.length ≤ 2000 ∧ Below w.heap.size w w' := by
  have E5 := empty5_new w 26
  have hb0 : Below w.heap.size w (w.alloc (.cells #[.int .i64 0, .int .i64 0, .int .i64 0, .int .i64 0, .slice none 0 0] 26)) := (Below.refl _ _).alloc (Nat.le_refl _) _
  have hR0 := hR.kept hb0
  go_enter Tryd.func7, Tryd.ntmps7
  go_wp2_with fail
  generalize hw0 : w.alloc (.cells #[.int .i64 0, .int .i64 0, .int .i64 0, .int .i64 0, .slice none 0 0] 26) = w0 at *
  have hs0 : w.heap.size < w0.heap.size := by rw [← hw0]; simp
  clear hw0
  refine (l1New_any o cap l w0 hR0 hB8 hm).mono ?_
  rintro e w1 ⟨rfl, hc1, hb1, hs1⟩
  go_wp2_with fail
  refine (l1bent_any w0.heap.size w1 hc1 hs1).mono ?_
  rintro e w2 ⟨a, b, f, s, v, L, rfl, hv, hL, hn, hc2, hg2⟩
  have hb2 : Below w0.heap.size w1 w2 := below_of_grown hg2 hs1
  have EE := (E5.kept hb1 hs0).kept hb2 hs0
  have hb02 : Below w.heap.size w w2 := hb0.trans ((hb1.trans hb2).mono (Nat.le_of_lt hs0))
  have hRw1 : w.heap.size < w1.heap.size := by omega
  clear E5 hb1 hb2 hg2 hc1 hc2 hR hR0 hb0
  obtain ⟨ov, cv, hve, _⟩ := hv.open
  subst hve
  obtain ⟨⟨d0, d1, d2, d3, d4⟩, g0, g1, g2, g3, g4⟩ := EE
  go_wp2
  refine bodyPost_ret (v := pkt a b f s (.slice ov L.length cv)) (by simp [results, Tryd.results7, go_sem, d0, d1, d2, d3, d4]) rfl ⟨a, b, f, s, _, L, rfl, ?_, hL, hn, ?_⟩
  · refine own_mono (base := w1.heap.size) ?_ (Nat.le_of_lt hRw1)
    repeat (refine ownsRow_setCell_below ?_ hRw1 _)
    exact hv
  · exact hb02.trans (put_at (put_at (put_at (put_at (put_at (Below.refl w.heap.size w2) 0 _) 1 _) 2 _) 3 _) 4 _)

theorem drawn_bd {a b f s : Int} (h : drawnP a b f s) : (0 ≤ a ∧ a < 65536) ∧ (0 ≤ b ∧ b < 65536) ∧ (0 ≤ f ∧ f < 16) ∧ (0 ≤ s ∧ s < 65536) := by
  obtain ⟨h1, h2, h3, h4⟩ := h
  refine ⟨by omega, by omega, ?_, by omega⟩
  simp at h3
  rcases h3 with h | h | h | h | h <;> subst h <;> decide
theorem own_nilP {w : World} {base n c : Nat} {o : Option Addr} {l : List Int} (h : ownB w base (.slice o n c) l) : o = none → c = 0 := by
  intro e
  rcases h.2 with ⟨h1, _⟩ | ⟨g, cap, cur, h1, _⟩
  · simp at h1; exact h1.2.2
  · simp [e] at h1
theorem own_cap {w : World} {base g n c : Nat} {l : List Int} (h : ownB w base (.slice (some ⟨g, 0, none⟩) n c) l) : n ≤ c ∧ c ≤ maxLen := by
  rcases h.2 with ⟨h1, _⟩ | ⟨g', cap', cur, h', _, _, hn, hm, _⟩
  · simp at h1
  · simp only [Value.slice.injEq] at h'
    omega
theorem rd_take {w : World} {o : Option Addr} {l : List Int} (h : Rd w o l) (i : Nat) : Rd w o (l.take i) := by
  rcases h with h | ⟨b, off, ho, hb, hc⟩
  · subst h; exact .inl (by simp)
  · refine .inr ⟨b, off, ho, hb, fun j hj => ?_⟩
    have hj2 : j < i ∧ j < l.length := by simp at hj; omega
    rw [hc j hj2.2]
    simp [List.getD_eq_getElem?_getD, List.getElem?_take, hj2.1]

/-- What DrawPacketRead answers. -/
def drPost (w : World) (e : Ending) (w' : World) : Prop := ∃ (o' : Option Addr) (c' : Nat) (L : List Int), e = .returned (.slice o' L.length c') ∧ Rd w' o' L ∧ isB L ∧ L.length ≤ 100 ∧ L.length ≤ c' ∧ c' ≤ maxLen ∧ Below w.heap.size w w'
theorem drPost_mk {w w' : World} {base n c g : Nat} {P : List Int} (h : ownB w' base (.slice (some ⟨g, 0, none⟩) n c) P) (hB : isB P) (hl : P.length ≤ 100) (hb : Below w.heap.size w w') : drPost w (.returned (.slice (some ⟨g, 0, none⟩) n c)) w' := by
  have hn : n = P.length := by
    rcases h.2 with ⟨h1, _⟩ | ⟨g', cap', cur, h', _⟩
    · simp at h1
    · simp at h'; exact h'.2.1
  subst hn
  exact ⟨_, c, P, rfl, h.rd, hB, hl, (own_cap h).1, (own_cap h).2, hb⟩
set_option maxRecDepth 100000 in
set_option maxHeartbeats 2000000 in
theorem drawPacketRead_any (o : Option Addr) (cap : Nat) (l : List Int) (w : World) (hR : Rd w o l) (hB8 : isB l) (hm : l.length ≤ maxLen) :
    Calls Tryd.prog 16 #[.slice o l.length cap] w fun e w' => drPost w e w' := by
  go_enter Tryd.func16, Tryd.ntmps16
  go_wp2_with fail
  refine (l1New_any o cap l w hR hB8 hm).mono ?_
  rintro e w1 ⟨rfl, hc1, hb1, hs1⟩
  go_wp2_with fail
  refine (l1drawR_any w.heap.size w1 hc1 hs1).mono ?_
  rintro e w2 ⟨a, b, f, s, v, L, rfl, hd, hv, hL, hn, hc2, hg2⟩
  obtain ⟨ov, cv, hve, hRv⟩ := hv.open
  subst hve
  obtain ⟨da, dbb, df, ds⟩ := drawn_bd hd
  have HB2 : Hid (Below w.heap.size w w2) := hb1.trans (below_of_grown hg2 hs1)
  have hs2 : w.heap.size < w2.heap.size := Nat.lt_of_lt_of_le hs1 hg2.size
  have HP := hide (l1bytes_any a b f s ov cv L w2 hRv (own_nilP hv) hL (by omega) da dbb df ds)
  have HPB := hide (packetL_isB hL (show L.length ≤ 16 by omega) da dbb df ds)
  have HPL := hide (packetL_length a b f s L)
  clear hv hRv hg2 hc1 hs1 hd da dbb df ds hb1
  go_wp2_with fail
  refine HP.out.mono ?_
  rintro e w3 ⟨vb, rfl, hvb, hb3⟩
  clear HP
  obtain ⟨P, hP⟩ : ∃ P, packetL a b f s L = P := ⟨_, rfl⟩
  rw [hP] at hvb HPB HPL
  obtain ⟨n, hnP⟩ : ∃ n, P.length = n := ⟨_, rfl⟩
  have HNP := hide hnP
  have hn10 : 10 ≤ n ∧ n ≤ 14 := by have := HPL.out; omega
  obtain ⟨g, c, rfl, _⟩ := hvb.pos (by omega)
  have hvb' : ownB w3 w2.heap.size (.slice (some ⟨g, 0, none⟩) n c) P := hnP ▸ hvb
  rw [hnP]
  clear hP hnP hvb HPL
  have hc3 := hc2.below (hb3.mono hs2)
  have HB3 := hide (HB2.out.trans (hb3.mono (Nat.le_of_lt hs2)))
  have hs3 : w2.heap.size ≤ w3.heap.size := hb3.size
  clear hb3 hc2 HB2
  go_wp2_with fail
  refine (l1Once_any w.heap.size 3 w3 hc3 (by omega) (by omega)).mono ?_
  rintro e w4 ⟨x, rfl, hc4, hg4⟩
  have hv4 := own_other hvb' hg4 hs2
  have HB4 := hide (HB3.out.trans (below_of_grown hg4 (by omega)))
  have hs4 : w3.heap.size ≤ w4.heap.size := hg4.size
  clear hvb' hc3 hg4 HB3
  have hnl : P.length ≤ 14 := by rw [HNP.out]; exact hn10.2
  cases x with
  | false =>
    have HF := hide (fun (W : World) (h : Below w.heap.size w W) (k : ownB W w2.heap.size (.slice (some ⟨g, 0, none⟩) n c) P) => drPost_mk k HPB.out (by omega) h)
    go_wp2
    go_ret
    exact HF.out _ HB4.out hv4
  | true =>
    go_wp2_with fail
    refine (l1Below_any w.heap.size n w4 hc4 (by omega) (by omega)).mono ?_
    rintro e w5 ⟨i, rfl, hi0, hi1, hc5, hg5⟩
    have hv5 := own_other hv4 hg5 hs2
    have HB5 := hide (HB4.out.trans (below_of_grown hg5 (by omega)))
    have hs5 : w4.heap.size ≤ w5.heap.size := hg5.size
    clear hv4 hc4 hg5 HB4
    go_wp2_with fail
    refine (l1Below_any w.heap.size 3 w5 hc5 (by omega) (by omega)).mono ?_
    rintro e w6 ⟨j, rfl, hj0, hj1, hc6, hg6⟩
    have hv6 := own_other hv5 hg6 hs2
    have HB6 := hide (HB5.out.trans (below_of_grown hg6 (by omega)))
    have hs6 : w5.heap.size ≤ w6.heap.size := hg6.size
    clear hv5 hc5 hg6 HB5
    obtain ⟨i', rfl⟩ := Int.eq_ofNat_of_zero_le hi0
    have hi' : i' < n := by omega
    rcases (show j = 0 ∨ j = 1 ∨ j = 2 by omega) with h | h | h
    · subst h
      go_wp2_with fail
      refine (l1Byte_any w.heap.size w6 hc6).mono ?_
      rintro e w7 ⟨y, rfl, hy0, hy1, hc7, hg7⟩
      have hv7 := own_other hv6 hg7 hs2
      have HB7 := hide (HB6.out.trans (below_of_grown hg7 (by omega)))
      have hcl : w7.cell? ⟨g, i', none⟩ = some (.int .u8 (P.getD i' 0)) := by
        have h := hv7
        rw [← HNP.out] at h
        exact ownB.cell h i' (by rw [HNP.out]; exact hi')
      have hv7n : w7.ownsRow w2.heap.size 5 1 (.slice (some ⟨g, 0, none⟩) n c) n (P.map (Value.int .u8)) := HNP.out ▸ hv7
      have hfz := hv7n.frozenAt i'
      have hwy := wrap_u8 y hy0 hy1
      have hst := hv7n.stored i' (.int .u8 y)
      rw [← List.map_set] at hst
      have HO : Hid (ownB (w7.setCell ⟨g, i', none⟩ (.int .u8 y)) w2.heap.size (.slice (some ⟨g, 0, none⟩) n c) (P.set i' y)) := by
        have h1 := hst.1
        unfold Hid ownB
        rw [List.length_set, HNP.out]
        exact h1
      have HS : Hid (isB (P.set i' y)) := by
        intro z hz
        rcases List.mem_or_eq_of_mem_set hz with h | h
        · exact HPB.out z h
        · omega
      have HBS := hide (HB7.out.setCell (p := ⟨g, i', none⟩) (show w.heap.size ≤ g by have := (hv7.lt g rfl).1; omega) (.int .u8 y))
      have HF := hide (fun (W : World) (h : Below w.heap.size w W) (k : ownB W w2.heap.size (.slice (some ⟨g, 0, none⟩) n c) (P.set i' y)) => drPost_mk k HS.out (by rw [List.length_set]; omega) h)
      clear hst hv7 hv7n hg7 hc7
      go_wp2
      go_ret
      exact HF.out _ HBS.out HO.out
    · subst h
      have hcp := own_cap hv6
      have HF : Hid (drPost w (.returned (.slice (some ⟨g, 0, none⟩) i' c)) w6) := by
        have hR6 := ownB.rd hv6
        refine ⟨some ⟨g, 0, none⟩, c, P.take i', ?_, rd_take hR6 i', fun z hz => HPB.out z (List.mem_of_mem_take hz), by simp; omega, by simp; omega, hcp.2, HB6.out⟩
        have : (P.take i').length = i' := by have := HNP.out; simp; omega
        rw [this]
      go_wp2
      go_ret
      exact HF.out
    · subst h
      have HV := hide (hv6.alloc (.cells #[.int .u8 0] 5))
      go_wp2_with (at_builtin; refine wpList_append_bytes_m rfl _ _ rfl w2.heap.size _ P rfl HV.out (some ⟨w6.heap.size, 0, none⟩) 1 [0] 1 rfl rfl (by intro e; cases e) (rd_one8 w6 0 _) ?c1 ?c2 ?_)
      case c1 => simp; omega
      case c2 => simp; omega
      intro v9 w9 hv9 _ hb9
      have HF : Hid (drPost w (.returned v9) w9) := by
        obtain ⟨g9, c9, rfl, _⟩ := hv9.pos (by simp)
        refine drPost_mk hv9 ?_ (by simp; omega) ((HB6.out.alloc HB6.out.size _).trans (hb9.mono (by omega)))
        intro z hz
        rcases List.mem_append.1 hz with h | h
        · exact HPB.out z h
        · simp at h; omega
      clear hv9 hb9
      go_wp2
      go_ret
      exact HF.out
end Go.Proofs.YtdoijnmgnocjaaaDoor
