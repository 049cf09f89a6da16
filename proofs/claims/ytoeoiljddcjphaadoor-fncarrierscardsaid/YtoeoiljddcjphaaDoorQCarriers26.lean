/- Several texts in one: CarMath, SDrCR, SCRdI. -/
import Derived.Test.YtoeoiljddcjphaaDoorQCarriers25
import Derived.Test.YtoeoiljddcjphaaDoorQCarriers24
import Derived.Test.YtoeoiljddcjphaaDoorQCarriers12
import Derived.Test.YtoeoiljddcjphaaDoorQCarriers13
import Derived.WalkLawsBesides
import Derived.Deep.RegionHeld3
import Derived.Test.YtoeoiljddcjphaaDoorQCarriers08
/- What is carried comes back from its bytes; whatever bytes are read as one are just its. -/
namespace Go.Proofs.YtoeoiljddcjphaaDoor
open Go.ChangeShapes Go.WideShapes Go.ChangeAt Go.RowKit Go.Joins
set_option linter.unusedVariables false
set_option linter.unusedSimpArgs false

theorem crG_map (x0 x1 x2 x3 x4 : Int) (R : List Int) (n : Nat) (h : n ≤ R.length) : crG (x0 :: x1 :: x2 :: x3 :: x4 :: R) n = (R.take n).map crSeg := by
 apply List.ext_getElem
 ·simp [crG]; omega
 ·intro i h1 h2
  simp [crG] at h1 h2
  have e : 5 + i = i + 1 + 1 + 1 + 1 + 1 := by omega
  simp [crG, e, List.getD_eq_getElem?_getD, show i < R.length by omega]
theorem crSeg_back {p : Int × Int} (h : segOkB p.1 p.2 = true) : crSeg (segB p) = p := by
 have := segOkB_iff.1 h
 unfold crSeg segB
 have h1 : (16 * p.2 + p.1) % 16 = p.1 := by omega
 have h2 : (16 * p.2 + p.1) / 16 = p.2 := by omega
 rw [h1, h2]
theorem segB_back (x : Int) : segB (crSeg x) = x := by unfold segB crSeg; simp only; omega
theorem map_back {g : List (Int × Int)} (h : ∀ i, i < g.length → segOkB (g.getD i (0, 0)).1 (g.getD i (0, 0)).2 = true) : (g.map segB).map crSeg = g := by
 rw [List.map_map]
 apply List.ext_getElem
 ·simp
 ·intro i h1 h2
  have := h i h2
  rw [List.getD_eq_getElem?_getD, List.getElem?_eq_getElem h2] at this
  simp only [List.getElem_map, Function.comp]
  exact crSeg_back this
/-- What is carried, as its bytes tell it. -/
theorem car_back {m : Cm} (h : m.ok = true) (hst : 0 ≤ m.st) : crOk (headL m.g.length m.pl m.st ++ segTo m.g m.g.length ++ packetL m.a m.b m.f m.s m.l) = true ∧ crM (headL m.g.length m.pl m.st ++ segTo m.g m.g.length ++ packetL m.a m.b m.f m.s m.l) = m := by
 obtain ⟨a, b, f, s, l, g, pl, st⟩ := m
 dsimp only at *
 have hok : carrierOkB a b f s l.length g pl st = true := h
 have hpk : packetOkB a b f s l.length = true := (carrierOkB_head hok).1
 have hsg : ∀ i, i < g.length → segOkB (g.getD i (0, 0)).1 (g.getD i (0, 0)).2 = true := by
  have h2 : routeR (opens3 f) 0 g = true := by unfold carrierOkB at hok; rw [Bool.and_eq_true] at hok; exact hok.2
  exact routeR_seg _ g 0 h2
 obtain ⟨p0, p2, p4, p6, p10, plen⟩ := packet_parts a b f s l
 have hb := packet_back hpk
 obtain ⟨P, hP⟩ : ∃ P, packetL a b f s l = P := ⟨_, rfl⟩
 rw [hP] at p0 p2 p4 p6 p10 hb ⊢
 have hS : segTo g g.length = g.map segB := by unfold segTo; rw [List.take_length]
 rw [hS]
 have hL : headL g.length pl st ++ g.map segB ++ P = (g.length : Int) :: pl :: (st / 65536) :: (st / 256 % 256) :: (st % 256) :: (g.map segB ++ P) := by simp [headL]
 rw [hL]
 have hN : crN ((g.length : Int) :: pl :: (st / 65536) :: (st / 256 % 256) :: (st % 256) :: (g.map segB ++ P)) = g.length := by simp [crN]
 have hC : crP ((g.length : Int) :: pl :: (st / 65536) :: (st / 256 % 256) :: (st % 256) :: (g.map segB ++ P)) = P := by
  unfold crP
  rw [hN, show 5 + g.length = g.length + 1 + 1 + 1 + 1 + 1 by omega]
  simp only [List.drop_succ_cons]
  rw [List.drop_append_of_le_length (by simp)]
  simp
 have hM : crM ((g.length : Int) :: pl :: (st / 65536) :: (st / 256 % 256) :: (st % 256) :: (g.map segB ++ P)) = ⟨a, b, f, s, l, g, pl, st⟩ := by
  unfold crM
  rw [hC, hN, crG_map _ _ _ _ _ _ _ (by simp), List.take_append_of_le_length (by simp), List.take_of_length_le (by simp), map_back hsg]
  have e1 : crSt ((g.length : Int) :: pl :: (st / 65536) :: (st / 256 % 256) :: (st % 256) :: (g.map segB ++ P)) = st := by simp [crSt]; omega
  rw [e1]
  simp only [rdN, rdL, hb, if_true, p0, p2, p4, p6, p10]
  rfl
 refine ⟨?_, hM⟩
 unfold crOk
 rw [hM, hC, hN, hb, h]
 simp
 omega
/-- Bytes that are read are just those of what is read. -/
theorem car_bytes {L : List Int} (hB : isB L) (h : crOk L = true) : (crM L).ok = true ∧ headL (crM L).g.length (crM L).pl (crM L).st ++ segTo (crM L).g (crM L).g.length ++ packetL (crM L).a (crM L).b (crM L).f (crM L).s (crM L).l = L := by
 unfold crOk at h
 simp only [Bool.and_eq_true, decide_eq_true_eq] at h
 obtain ⟨⟨⟨h5, hn⟩, hr⟩, hok⟩ := h
 refine ⟨hok, ?_⟩
 match L, h5 with
 | x0 :: x1 :: x2 :: x3 :: x4 :: R, _ =>
  have q0 := hB x0 (by simp)
  have q2 := hB x2 (by simp)
  have q3 := hB x3 (by simp)
  have q4 := hB x4 (by simp)
  obtain ⟨N, hN⟩ : ∃ N, crN (x0 :: x1 :: x2 :: x3 :: x4 :: R) = N := ⟨_, rfl⟩
  have hx0 : x0 = (N : Int) := by rw [← hN]; simp [crN]; omega
  rw [hN] at hn
  have hnR : N ≤ R.length := by simp at hn; omega
  have hC : crP (x0 :: x1 :: x2 :: x3 :: x4 :: R) = R.drop N := by
   unfold crP
   rw [hN, show 5 + N = N + 1 + 1 + 1 + 1 + 1 by omega]
   simp only [List.drop_succ_cons]
  rw [hC] at hr
  have hp : packetL (rdN (R.drop N) (pairLS (R.drop N) 0)) (rdN (R.drop N) (pairLS (R.drop N) 2)) (rdN (R.drop N) ((R.drop N).getD 6 0)) (rdN (R.drop N) (pairLS (R.drop N) 4)) (rdL (R.drop N)) = R.drop N := by
   have := (okR_iff.1 hr).2.2.1
   simp only [rdN, rdL, hr, if_true]
   exact this
  have hM : crM (x0 :: x1 :: x2 :: x3 :: x4 :: R) = ⟨rdN (R.drop N) (pairLS (R.drop N) 0), rdN (R.drop N) (pairLS (R.drop N) 2), rdN (R.drop N) ((R.drop N).getD 6 0), rdN (R.drop N) (pairLS (R.drop N) 4), rdL (R.drop N), (R.take N).map crSeg, x1, x2 * 65536 + x3 * 256 + x4⟩ := by
   unfold crM
   rw [hC, hN, crG_map _ _ _ _ _ _ _ hnR]
   rfl
  rw [hM]
  dsimp only
  rw [hp]
  have hg : ((R.take N).map crSeg).length = N := by simp; omega
  rw [hg]
  have hs : segTo ((R.take N).map crSeg) N = R.take N := by
   unfold segTo
   rw [List.take_of_length_le (by rw [hg]; exact Nat.le_refl _), List.map_map]
   have : (segB ∘ crSeg) = id := by funext x; exact segB_back x
   rw [this, List.map_id]
  rw [hs, List.append_assoc, List.take_append_drop]
  have e2 : (x2 * 65536 + x3 * 256 + x4) / 65536 = x2 := by omega
  have e3 : (x2 * 65536 + x3 * 256 + x4) / 256 % 256 = x3 := by omega
  have e4 : (x2 * 65536 + x3 * 256 + x4) % 256 = x4 := by omega
  simp [headL, e2, e3, e4, hx0]

end Go.Proofs.YtoeoiljddcjphaaDoor

/- What DrawCarrierRead draws: bytes, a few. -/
namespace Go.Proofs.YtoeoiljddcjphaaDoor
open Go.ChangeShapes Go.WideShapes Go.ChangeAt Go.RowKit Go.Joins
set_option linter.unusedVariables false
set_option linter.unusedSimpArgs false

theorem carB_isB {m : Cm} (h : m.ok = true) (hb : isB m.l) : isB (headL m.g.length m.pl m.st ++ segTo m.g m.g.length ++ packetL m.a m.b m.f m.s m.l) := by
 obtain ⟨a, b, f, s, l, g, pl, st⟩ := m
 dsimp only at *
 have hok : carrierOkB a b f s l.length g pl st = true := h
 obtain ⟨hpk, h1, h2, h3, h4, h5, h6⟩ := carrierOkB_head hok
 obtain ⟨hl, ha, hbb, hf, hs⟩ := packetOk_bd hpk
 have hsg : ∀ i, i < g.length → segOkB (g.getD i (0, 0)).1 (g.getD i (0, 0)).2 = true := by
  have h2 : routeR (opens3 f) 0 g = true := by unfold carrierOkB at hok; rw [Bool.and_eq_true] at hok; exact hok.2
  exact routeR_seg _ g 0 h2
 intro x hx
 rcases List.mem_append.1 hx with hx | hx
 ·rcases List.mem_append.1 hx with hx | hx
  ·simp [headL] at hx
   rcases hx with h | h | h | h | h <;> subst h <;> omega
  ·unfold segTo at hx
   rw [List.take_length] at hx
   obtain ⟨p, hp, rfl⟩ := List.mem_map.1 hx
   obtain ⟨i, hi, he⟩ := List.getElem_of_mem hp
   have := hsg i hi
   rw [List.getD_eq_getElem?_getD, List.getElem?_eq_getElem hi, Option.getD_some, he] at this
   have := segOkB_iff.1 this
   unfold segB; omega
 ·exact packetL_isB hb (by omega) ha hbb hf hs x hx
theorem carB_len {m : Cm} : (headL m.g.length m.pl m.st ++ segTo m.g m.g.length ++ packetL m.a m.b m.f m.s m.l).length = 15 + m.g.length + m.l.length := by
 rw [List.length_append, List.length_append, segTo_length _ _ (Nat.le_refl _), packetL_length]
 simp [headL]
 omega
set_option maxRecDepth 100000 in
set_option maxHeartbeats 2000000 in
theorem drawCarrierRead_any (o : Option Addr) (cap : Nat) (l : List Int) (w : World) (hR : Rd w o l) (hB8 : isB l) (hm : l.length ≤ maxLen) :
  Calls Tryd.prog 12 #[.slice o l.length cap] w fun e w' => drPost w e w' := by
 go_enter Tryd.func12, Tryd.ntmps12
 go_wp2_with fail
 refine (l1New_any o cap l w hR hB8 hm).mono ?_
 rintro e w1 ⟨rfl, hc1, hb1, hs1⟩
 go_wp2_with fail
 refine (l2draw_any w.heap.size w1 hc1 hs1).mono ?_
 rintro e w2 ⟨v, ⟨a, b, f, s, L, g, pl, st⟩, rfl, ⟨vl, vg, rfl, hv, hvg⟩, hok, hL, hn, hgn, hc2, hg2⟩
 dsimp only at *
 obtain ⟨ov, cv, hve, hRv⟩ := hv.open
 obtain ⟨og, cg, hge, hRg⟩ := hvg.open
 subst hve hge
 have HB2 : Hid (Below w.heap.size w w2) := hb1.trans (below_of_grown hg2 hs1)
 have hs2 : w.heap.size < w2.heap.size := Nat.lt_of_lt_of_le hs1 hg2.size
 have HP := hide (l2bytes_any a b f s ov og cv cg L g pl st w2 hRv (own_nilP hv) hL hRg hok)
 have HPB := hide (carB_isB (m := ⟨a, b, f, s, L, g, pl, st⟩) hok hL)
 have HPL := hide (carB_len (m := ⟨a, b, f, s, L, g, pl, st⟩))
 have HOK := hide (carrierOkB_head hok)
 dsimp only at HPB HPL
 clear hv hRv hRg hvg hg2 hc1 hs1 hb1 hok
 go_wp2_with fail
 refine HP.out.mono ?_
 rintro e w3 ⟨vb, rfl, hvb, hb3⟩
 clear HP
 obtain ⟨P, hP⟩ : ∃ P, headL g.length pl st ++ segTo g g.length ++ packetL a b f s L = P := ⟨_, rfl⟩
 rw [hP] at hvb HPB HPL
 obtain ⟨n, hnP⟩ : ∃ n, P.length = n := ⟨_, rfl⟩
 have HNP := hide hnP
 have hn10 : 10 ≤ n ∧ n ≤ 26 := by have := HPL.out; omega
 obtain ⟨g, c, rfl, _⟩ := hvb.pos (by omega)
 have hvb' : ownB w3 w2.heap.size (.slice (some ⟨g, 0, none⟩) n c) P := hnP ▸ hvb
 rw [hnP]
 clear hP hnP hvb HPL
 have hc3 := hc2.below (hb3.mono hs2)
 have HB3 := hide (HB2.out.trans (hb3.mono (Nat.le_of_lt hs2)))
 have hs3 : w2.heap.size ≤ w3.heap.size := hb3.size
 clear hb3 hc2 HB2
 go_wp2_with fail
 refine (l1Once_any w.heap.size 3 w3 hc3 (by omega) (by omega)).mono ?_
 rintro e w4 ⟨x, rfl, hc4, hg4⟩
 have hv4 := own_other hvb' hg4 hs2
 have HB4 := hide (HB3.out.trans (below_of_grown hg4 (by omega)))
 have hs4 : w3.heap.size ≤ w4.heap.size := hg4.size
 clear hvb' hc3 hg4 HB3
 have hnl : P.length ≤ 26 := by rw [HNP.out]; exact hn10.2
 cases x with
 | false =>
  have HF := hide (fun (W : World) (h : Below w.heap.size w W) (k : ownB W w2.heap.size (.slice (some ⟨g, 0, none⟩) n c) P) => drPost_mk k HPB.out (by omega) h)
  go_wp2
  go_ret
  exact HF.out _ HB4.out hv4
 | true =>
  go_wp2_with fail
  refine (l1Below_any w.heap.size n w4 hc4 (by omega) (by omega)).mono ?_
  rintro e w5 ⟨i, rfl, hi0, hi1, hc5, hg5⟩
  have hv5 := own_other hv4 hg5 hs2
  have HB5 := hide (HB4.out.trans (below_of_grown hg5 (by omega)))
  have hs5 : w4.heap.size ≤ w5.heap.size := hg5.size
  clear hv4 hc4 hg5 HB4
  go_wp2_with fail
  refine (l1Below_any w.heap.size 3 w5 hc5 (by omega) (by omega)).mono ?_
  rintro e w6 ⟨j, rfl, hj0, hj1, hc6, hg6⟩
  have hv6 := own_other hv5 hg6 hs2
  have HB6 := hide (HB5.out.trans (below_of_grown hg6 (by omega)))
  have hs6 : w5.heap.size ≤ w6.heap.size := hg6.size
  clear hv5 hc5 hg6 HB5
  obtain ⟨i', rfl⟩ := Int.eq_ofNat_of_zero_le hi0
  have hi' : i' < n := by omega
  rcases (show j = 0 ∨ j = 1 ∨ j = 2 by omega) with h | h | h
  ·subst h
   go_wp2_with fail
   refine (l1Below_any w.heap.size 30 w6 hc6 (by omega) (by omega)).mono ?_
   rintro e w7 ⟨y, rfl, hy0, hy1, hc7, hg7⟩
   have hv7 := own_other hv6 hg7 hs2
   have HB7 := hide (HB6.out.trans (below_of_grown hg7 (by omega)))
   have hcl : w7.cell? ⟨g, i', none⟩ = some (.int .u8 (P.getD i' 0)) := by
    have h := hv7
    rw [← HNP.out] at h
    exact ownB.cell h i' (by rw [HNP.out]; exact hi')
   have hv7n : w7.ownsRow w2.heap.size 5 1 (.slice (some ⟨g, 0, none⟩) n c) n (P.map (Value.int .u8)) := HNP.out ▸ hv7
   have hfz := hv7n.frozenAt i'
   have hwy := wrap_u8 y hy0 (by omega)
   have hst := hv7n.stored i' (.int .u8 y)
   rw [← List.map_set] at hst
   have HO : Hid (ownB (w7.setCell ⟨g, i', none⟩ (.int .u8 y)) w2.heap.size (.slice (some ⟨g, 0, none⟩) n c) (P.set i' y)) := by
    have h1 := hst.1
    unfold Hid ownB
    rw [List.length_set, HNP.out]
    exact h1
   have HS : Hid (isB (P.set i' y)) := by
    intro z hz
    rcases List.mem_or_eq_of_mem_set hz with h | h
    ·exact HPB.out z h
    ·omega
   have HBS := hide (HB7.out.setCell (p := ⟨g, i', none⟩) (show w.heap.size ≤ g by have := (hv7.lt g rfl).1; omega) (.int .u8 y))
   have HF := hide (fun (W : World) (h : Below w.heap.size w W) (k : ownB W w2.heap.size (.slice (some ⟨g, 0, none⟩) n c) (P.set i' y)) => drPost_mk k HS.out (by rw [List.length_set]; omega) h)
   clear hst hv7 hv7n hg7 hc7
   go_wp2
   go_ret
   exact HF.out _ HBS.out HO.out
  ·subst h
   have hcp := own_cap hv6
   have HF : Hid (drPost w (.returned (.slice (some ⟨g, 0, none⟩) i' c)) w6) := by
    have hR6 := ownB.rd hv6
    refine ⟨some ⟨g, 0, none⟩, c, P.take i', ?_, rd_take hR6 i', fun z hz => HPB.out z (List.mem_of_mem_take hz), by simp; omega, by simp; omega, hcp.2, HB6.out⟩
    have : (P.take i').length = i' := by have := HNP.out; simp; omega
    rw [this]
   go_wp2
   go_ret
   exact HF.out
  ·subst h
   have HV := hide (hv6.alloc (.cells #[.int .u8 0] 5))
   go_wp2_with (at_builtin; refine wpList_append_bytes_m rfl _ _ rfl w2.heap.size _ P rfl HV.out (some ⟨w6.heap.size, 0, none⟩) 1 [0] 1 rfl rfl (by intro e; cases e) (rd_one8 w6 0 _) ?c1 ?c2 ?_)
   case c1 => simp; omega
   case c2 => simp; omega
   intro v9 w9 hv9 _ hb9
   have HF : Hid (drPost w (.returned v9) w9) := by
    obtain ⟨g9, c9, rfl, _⟩ := hv9.pos (by simp)
    refine drPost_mk hv9 ?_ (by simp; omega) ((HB6.out.alloc HB6.out.size _).trans (hb9.mono (by omega)))
    intro z hz
    rcases List.mem_append.1 hz with h | h
    ·exact HPB.out z h
    ·simp at h; omega
   clear hv9 hb9
   go_wp2
   go_ret
   exact HF.out
end Go.Proofs.YtoeoiljddcjphaaDoor

/- The program's reader of bytes: what it wants, numbers, segs. -/
namespace Go.Proofs.YtoeoiljddcjphaaDoor
open Go.ChangeShapes Go.WideShapes Go.ChangeAt Go.RowKit Go.Joins
set_option linter.unusedVariables false
set_option linter.unusedSimpArgs false


/-- What the reader gives up with. -/
def gaveUp : Value := .iface 9 (.string { data := #[116, 104, 101, 115, 101, 32, 98, 121, 116, 101, 115, 32, 97, 114, 101, 32, 110, 111, 116, 32, 119, 104, 97, 116, 32, 105, 115, 32, 114, 101, 97, 100] })
def gaveL : List PanicEntry := [{ v := gaveUp, recovered := false }]
set_option maxHeartbeats 400000 in
theorem want_yes (r : Nat) (w : World) :
  Calls Tryd.prog 71 #[.pointer (some ⟨r, 0, none⟩), .bool true] w fun e w' => e = .returned (.tuple #[]) ∧ w' = w := by
 go_enter Tryd.func71, Tryd.ntmps71
 go_wp2
 go_end0
 exact ⟨rfl, rfl⟩
set_option maxHeartbeats 400000 in
theorem want_no (r : Nat) (w : World) :
  Calls Tryd.prog 71 #[.pointer (some ⟨r, 0, none⟩), .bool false] w fun e w' => e = .panicked gaveL ∧ w' = w := by
 go_enter Tryd.func71, Tryd.ntmps71
 go_wp2
 exact ⟨rfl, rfl, rfl⟩

/-- The number that the first k bytes tell. -/
def numTo (L : List Int) : Nat → Int
 | 0 => 0
 | k + 1 => numTo L k * 256 + L.getD k 0
theorem numTo_bd {L : List Int} (h : isB L) : ∀ k, k ≤ 3 → 0 ≤ numTo L k ∧ numTo L k < 256 ^ k
 | 0, _ => by simp [numTo]
 | k + 1, hk => by
  have ih := numTo_bd h k (by omega)
  have hb := h.get k
  rw [numTo, Int.pow_succ]
  omega
theorem or_num (x y : Int) (hx : 0 ≤ x ∧ x < 65536) (hy : 0 ≤ y ∧ y ≤ 255) : bits .or .i64 (x * 256) y = x * 256 + y := by
 obtain ⟨a, rfl⟩ := Int.eq_ofNat_of_zero_le hx.1
 obtain ⟨b, rfl⟩ := Int.eq_ofNat_of_zero_le hy.1
 have h := i64_or_nat (a * 256) b (by omega) (by omega)
 rw [nat_join 8 (a * 256) b (by omega) (by omega)] at h
 simpa using h

def numPost (r b off n cap s : Nat) (x : Int) (w : World) (e : Ending) (w' : World) : Prop := e = .returned (.int .i64 x) ∧ ∃ off', w' = w.setCell ⟨r, 0, none⟩ (.slice (some ⟨b, off', none⟩) (n - s) (cap - s)) ∧ (off' = off + s ∨ n = s)
set_option maxHeartbeats 1000000 in
theorem number_no (r n cap s : Nat) (o : Option Addr) (w : World) (hb : w.heap[r]? = some (.cells #[.slice o n cap] 94 (0, 0))) (hs : n < s) (hs3 : s ≤ 3) :
  Calls Tryd.prog 68 #[.pointer (some ⟨r, 0, none⟩), .int .i64 s] w fun e w' => e = .panicked gaveL ∧ w' = w := by
 have c0 : w.cell? ⟨r, 0, none⟩ = some (.slice o n cap) := block_cell hb 0 _ rfl
 have z : ¬ ((s : Int) ≤ (n : Int)) := by omega
 go_enter Tryd.func68, Tryd.ntmps68
 go_wp2_with fail
 refine (want_no r w).mono ?_
 rintro e w1 ⟨rfl, rfl⟩
 exact ⟨rfl, rfl, rfl⟩

set_option maxRecDepth 100000 in
set_option maxHeartbeats 2000000 in
theorem number_yes (r b off n cap s : Nat) (L : List Int) (hn : n = L.length) (w : World) (hb : w.heap[r]? = some (.cells #[.slice (some ⟨b, off, none⟩) n cap] 94 (0, 0))) (hcell : ∀ i, i < L.length → w.cell? ⟨b, off + i, none⟩ = some (.int .u8 (L.getD i 0))) (hB8 : isB L) (hs0 : 1 ≤ s) (hs : s ≤ n) (hs3 : s ≤ 3) (hcap : n ≤ cap) (hcm : cap ≤ maxLen) (hl : n ≤ 1048576) :
  Calls Tryd.prog 68 #[.pointer (some ⟨r, 0, none⟩), .int .i64 s] w fun e w' => numPost r b off n cap s (numTo L s) w e w' := by
 have c0 : w.cell? ⟨r, 0, none⟩ = some (.slice (some ⟨b, off, none⟩) n cap) := block_cell hb 0 _ rfl
 have f0 : w.frozen? ⟨r, 0, none⟩ = false := block_frozen hb 0
 have z : (s : Int) ≤ (n : Int) := by omega
 have z2 : (s : Int) ≤ (cap : Int) := by omega
 have z3 : (n : Int) ≤ (cap : Int) := by omega
 have HC := hide hcell
 have HN := hide hn
 have HNB := hide (fun k hk => numTo_bd hB8 k hk)
 have HB := hide hB8
 clear hcell hn hB8 hb
 go_enter Tryd.func68, Tryd.ntmps68
 go_wp2_with fail
 refine (want_yes r w).mono ?_
 rintro e w1 ⟨rfl, rfl⟩
 go_wp2
 go_loopw [5, 24] (fun nv iv wr => ∃ k : Nat, k ≤ s ∧ iv = .int .i64 k ∧ nv = .int .i64 (numTo L k) ∧ wr = w1)
  (fun _ iv _ => s - (intOf iv).toNat)
 case atStart => exact ⟨0, Nat.zero_le _, rfl, rfl, rfl⟩
 case round =>
  obtain ⟨k, hk, rfl, rfl, rfl⟩ := hrel
  by_cases hlt : k < s
  ·have z1 : (k : Int) < (s : Int) := by omega
   have hc := HC.out k (by have := HN.out; omega)
   have hq := HB.out.get k
   have hbd := HNB.out k (by omega)
   have hbe : numTo L k < 65536 := by
    have : k = 0 ∨ k = 1 ∨ k = 2 := by omega
    rcases this with h | h | h <;> subst h <;> omega
   have hor := or_num (numTo L k) (L.getD k 0) ⟨hbd.1, hbe⟩ hq
   have HSU := hide (show numTo L (k + 1) = numTo L k * 256 + L.getD k 0 from rfl)
   have hw1 : IntKind.i64.wrap (numTo L k * 256) = numTo L k * 256 := wrap_i64 _ (by omega) (by omega)
   have hw2 : IntKind.i64.wrap (L.getD k 0) = L.getD k 0 := wrap_i64 _ (by omega) (by omega)
   have h0 := hbd.1
   clear hbd
   generalize numTo L k = x at *
   generalize L.getD k 0 = y at *
   go_wp2
   go_roundw
   case rel => exact ⟨k + 1, by omega, by go_num, by rw [HSU.out], trivial⟩
   case measure => simp [intOf]; omega
  ·have e : k = s := by omega
   subst e
   have z1 : ¬ ((k : Int) < (k : Int)) := by omega
   by_cases hcz : cap = k
   ·have hnk : Hid (n = k) := by unfold Hid; omega
    subst hcz
    go_wp2
    go_ret
    exact ⟨rfl, off, by rw [hnk.out]; simp, .inr hnk.out⟩
   ·have hcz2 : ¬ (cap - k = 0) := by omega
    go_wp2
    go_ret
    exact ⟨rfl, off + k, rfl, .inl rfl⟩

theorem box_setR (w : World) (k j : Nat) (cs : Array Value) (t : TypeId) (v : Value) (h : w.heap[k]? = some (.cells cs t (0, 0))) : (w.setCell ⟨k, j, none⟩ v).heap[k]? = some (.cells (cs.setIfInBounds j v) t (0, 0)) := by
 simp [World.setCell, Array.getElem?_modify, h]
/-- The reader's box: it stands at bytes that read as L. -/
structure RdrAt (C r : Nat) (w : World) (L : List Int) : Prop where
 at_ : ∃ (o : Option Addr) (cap : Nat), w.heap[r]? = some (.cells #[.slice o L.length cap] 94 (0, 0)) ∧ Rd w o L ∧ L.length ≤ cap ∧ cap ≤ maxLen ∧ (L ≠ [] → ∀ b off, o = some ⟨b, off, none⟩ → b < C)
 hC : C ≤ r
 b8 : isB L
 len : L.length ≤ 1048576
theorem RdrAt.kept {C r : Nat} {w w' : World} {L : List Int} (h : RdrAt C r w L) (hb : Below w.heap.size w w') : RdrAt C r w' L := by
 obtain ⟨⟨o, cap, h1, h2, h3⟩, h8, h4, h5⟩ := h
 exact ⟨⟨o, cap, (hb.block r (Array.getElem?_eq_some_iff.1 h1).1).trans h1, h2.kept hb, h3⟩, h8, h4, h5⟩
theorem RdrAt.set {C r q j : Nat} {w : World} {L : List Int} (h : RdrAt C r w L) (hq : q ≠ r) (hC : C ≤ q) (u : Value) : RdrAt C r (w.setCell ⟨q, j, none⟩ u) L := by
 obtain ⟨⟨o, cap, h1, h2, h3, h6, h7⟩, h8, h4, h5⟩ := h
 refine ⟨⟨o, cap, (Below.heap_setCell w ⟨q, j, none⟩ u r (fun e => hq e.symm)).trans h1, ?_, h3, h6, h7⟩, h8, h4, h5⟩
 rcases h2 with h2 | ⟨b, off, ho, hbl, hc⟩
 ·exact .inl h2
 ·exact .inr ⟨b, off, ho, by simpa [World.setCell] using hbl, fun i hi => (World.cell?_setCell_other w _ _ _ (by have := h7 (fun e => by rw [e] at hi; exact absurd hi (Nat.not_lt_zero _)) b off ho; simp <;> omega)).trans (hc i hi)⟩
/-- A number is read: whatever the bytes are. -/
def numR (C r s : Nat) (L : List Int) (w : World) (e : Ending) (w' : World) : Prop :=
 (L.length < s ∧ e = .panicked gaveL ∧ w' = w) ∨ (s ≤ L.length ∧ e = .returned (.int .i64 (numTo L s)) ∧ RdrAt C r w' (L.drop s) ∧ w.grownBy w' (some r))
theorem number_any (C r s : Nat) (L : List Int) (w : World) (h : RdrAt C r w L) (hs0 : 1 ≤ s) (hs3 : s ≤ 3) :
  Calls Tryd.prog 68 #[.pointer (some ⟨r, 0, none⟩), .int .i64 s] w fun e w' => numR C r s L w e w' := by
 obtain ⟨⟨o, cap, h1, h2, h3, h6, h7⟩, h8, h4, h5⟩ := h
 by_cases hlt : L.length < s
 ·exact (number_no r L.length cap s o w h1 hlt hs3).mono fun e w' ⟨a, b⟩ => .inl ⟨hlt, a, b⟩
 ·rcases h2 with h2 | ⟨b, off, ho, hbl, hc⟩
  ·subst h2; simp at hlt; omega
  ·subst ho
   refine (number_yes r b off L.length cap s L rfl w h1 hc h4 hs0 (by omega) hs3 h3 h6 h5).mono ?_
   rintro e w' ⟨rfl, off', rfl, ho'⟩
   have hbC := h7 (fun e => by rw [e] at hlt; exact hlt (by simpa using (show 0 < s by omega))) b off rfl
   have hbr : b ≠ r := by omega
   refine .inr ⟨by omega, rfl, ⟨⟨some ⟨b, off', none⟩, cap - s, ?_, ?_, by simp <;> omega, by omega, fun _ b' off'' e => by injection e with e; injection e with e1 _ _; omega⟩, h8, fun x hx => h4 x (List.mem_of_mem_drop hx), by simp <;> omega⟩, ?_⟩
   ·have := box_setR w r 0 _ _ (.slice (some ⟨b, off', none⟩) (L.length - s) (cap - s)) h1
    simpa using this
   ·refine .inr ⟨b, off', rfl, by simpa [World.setCell] using hbl, fun i hi => ?_⟩
    have hi2 : i < L.length - s := by simpa using hi
    have e : off' = off + s := by omega
    subst e
    refine (World.cell?_setCell_other w _ _ _ (by simp [hbr])).trans ?_
    have := hc (s + i) (by omega)
    rw [show off + s + i = off + (s + i) by omega, this]
    simp [List.getD_eq_getElem?_getD, List.getElem?_drop]
   ·exact ⟨rfl, rfl, rfl, by simp [World.setCell], fun j hj hne => Below.heap_setCell w ⟨r, 0, none⟩ _ j (fun e => hne (by rw [e]))⟩

/-- A seg is read. -/
def segR (C r : Nat) (L : List Int) (w : World) (e : Ending) (w' : World) : Prop :=
 (L.length < 1 ∧ e = .panicked gaveL ∧ w.grownBy w' (some r)) ∨ (1 ≤ L.length ∧ e = .returned (seg (L.getD 0 0 % 16) (L.getD 0 0 / 16)) ∧ RdrAt C r w' (L.drop 1) ∧ w.grownBy w' (some r))
set_option maxRecDepth 100000 in
set_option maxHeartbeats 1000000 in
theorem seg_any (C r : Nat) (L : List Int) (w : World) (h : RdrAt C r w L) (hr : r < w.heap.size) :
  Calls Tryd.prog 69 #[.pointer (some ⟨r, 0, none⟩)] w fun e w' => segR C r L w e w' := by
 have hq := h.b8.get 0
 have hR0 : (w.alloc (.cells #[.int .i64 0, .int .i64 0] 62)).heap[w.heap.size]? = some (.cells #[.int .i64 0, .int .i64 0] 62 (0, 0)) := World.alloc_heap_new w _
 have hN := number_any C r 1 L _ (h.kept ((Below.refl _ w).alloc (Nat.le_refl _) (.cells #[.int .i64 0, .int .i64 0] 62))) (by omega) (by omega)
 have hg0 : w.grownBy (w.alloc (.cells #[.int .i64 0, .int .i64 0] 62)) (some r) := World.grownBy_alloc w _ _
 go_enter Tryd.func69, Tryd.ntmps69
 go_wp2_with fail
 generalize hw0 : w.alloc (.cells #[.int .i64 0, .int .i64 0] 62) = w0 at *
 have hs0 : w.heap.size < w0.heap.size := by rw [← hw0]; simp
 clear hw0
 refine hN.mono ?_
 rintro e w1 (⟨hlt, rfl, rfl⟩ | ⟨hle, rfl, hr1, hg1⟩)
 ·refine ⟨rfl, .inl ⟨hlt, rfl, hg0⟩⟩
 ·have hR1 := (hg1.block w.heap.size hs0 (by simp; omega)).trans hR0
  have e0 : w1.cell? ⟨w.heap.size, 0, none⟩ = some (.int .i64 0) := block_cell hR1 0 _ rfl
  have e1 : w1.cell? ⟨w.heap.size, 1, none⟩ = some (.int .i64 0) := block_cell hR1 1 _ rfl
  have q0 : w1.frozen? ⟨w.heap.size, 0, none⟩ = false := block_frozen hR1 0
  have q1 : w1.frozen? ⟨w.heap.size, 1, none⟩ = false := block_frozen hR1 1
  have en : numTo L 1 = L.getD 0 0 := by simp [numTo]
  rw [en]
  have HG := hide (grownBy_then hg0 hg1)
  have HR := hide hr1
  have HLE := hide hle
  clear hg1 hr1 hR1 en hN hle
  generalize hx : L.getD 0 0 = x at *
  have HX := hide hx
  have m1 : x.tmod 16 = x % 16 := Int.tmod_eq_emod_of_nonneg (by omega)
  have m2 : x.tdiv 16 = x / 16 := Int.tdiv_eq_ediv_of_nonneg (by omega)
  clear hx
  go_wp2
  refine bodyPost_ret (v := seg (x % 16) (x / 16)) (by simp [results, Tryd.results69, go_sem, e0, e1]) rfl ?_
  refine .inr ⟨HLE.out, by rw [HX.out], ?_, ?_⟩
  ·exact (HR.out.set (by omega) (Nat.le_trans h.hC (Nat.le_of_lt hr)) _).set (by omega) (Nat.le_trans h.hC (Nat.le_of_lt hr)) _
  ·exact grown_below HG.out (put_at (put_at (Below.refl w.heap.size w1) 0 _) 1 _) (Nat.le_refl _)

/-- A packet is read. -/
def pktR (L : List Int) (w : World) (e : Ending) (w' : World) : Prop :=
 (okR L = false ∧ e = .panicked gaveL ∧ Below w.heap.size w w') ∨ (okR L = true ∧ ∃ v, e = .returned (pkt (rdN L (pairLS L 0)) (rdN L (pairLS L 2)) (rdN L (L.getD 6 0)) (rdN L (pairLS L 4)) v) ∧ ownB w' w.heap.size v (rdL L) ∧ Below w.heap.size w w')
set_option maxRecDepth 100000 in
set_option maxHeartbeats 1000000 in
theorem packet_any (C r : Nat) (L : List Int) (w : World) (h : RdrAt C r w L) (hr : r < w.heap.size) :
  Calls Tryd.prog 70 #[.pointer (some ⟨r, 0, none⟩)] w fun e w' => pktR L w e w' := by
 have hb0 : Below w.heap.size w (w.alloc (.cells #[.int .i64 0, .int .i64 0, .int .i64 0, .int .i64 0, .slice none 0 0] 26)) := (Below.refl _ _).alloc (Nat.le_refl _) _
 have hR0 : (w.alloc (.cells #[.int .i64 0, .int .i64 0, .int .i64 0, .int .i64 0, .slice none 0 0] 26)).heap[w.heap.size]? = some (.cells #[.int .i64 0, .int .i64 0, .int .i64 0, .int .i64 0, .slice none 0 0] 26 (0, 0)) := World.alloc_heap_new w _
 obtain ⟨⟨o, cap, h1, h2, h3, h6, h7⟩, h8, h4, h5⟩ := h.kept hb0
 have c0 : (w.alloc (.cells #[.int .i64 0, .int .i64 0, .int .i64 0, .int .i64 0, .slice none 0 0] 26)).cell? ⟨r, 0, none⟩ = some (.slice o L.length cap) := block_cell h1 0 _ rfl
 have HP := hide (implPacketRead_any o cap L _ h2 h4 h5 h3 h6)
 clear h1 h2 h7
 go_enter Tryd.func70, Tryd.ntmps70
 go_wp2_with fail
 generalize hw0 : w.alloc (.cells #[.int .i64 0, .int .i64 0, .int .i64 0, .int .i64 0, .slice none 0 0] 26) = w0 at *
 have hs0 : w.heap.size < w0.heap.size := by rw [← hw0]; simp
 clear hw0 c0
 refine HP.out.mono ?_
 rintro e w1 ⟨v, rfl, hv, hb1⟩
 have hs1 := hb1.size
 have hR1 := (hb1.block _ hs0).trans hR0
 obtain ⟨ov, cv, ev, _⟩ := hv.open
 subst ev
 have hB1 : Below w.heap.size w w1 := hb0.trans (hb1.mono (Nat.le_of_lt hs0))
 clear HP hb0 hb1 hR0
 obtain ⟨ok, hok⟩ : ∃ ok, okR L = ok := ⟨_, rfl⟩
 have HO := hide hok
 rw [hok]
 clear hok
 have HV := hide hv
 generalize hpa : rdN L (pairLS L 0) = pa at *
 generalize hpb : rdN L (pairLS L 2) = pb at *
 generalize hpf : rdN L (L.getD 6 0) = pf at *
 generalize hps : rdN L (pairLS L 4) = ps at *
 have HE := hide (And.intro hpa (And.intro hpb (And.intro hpf hps)))
 clear hpa hpb hpf hps hv
 have hB2 : Below w.heap.size w (w1.alloc (.cells #[.int .i64 pa, .int .i64 pb, .int .i64 pf, .int .i64 ps, .slice ov (rdL L).length cv] 26)) := hB1.alloc hB1.size _
 have hP2 : (w1.alloc (.cells #[.int .i64 pa, .int .i64 pb, .int .i64 pf, .int .i64 ps, .slice ov (rdL L).length cv] 26)).heap[w1.heap.size]? = some (.cells #[.int .i64 pa, .int .i64 pb, .int .i64 pf, .int .i64 ps, .slice ov (rdL L).length cv] 26 (0, 0)) := World.alloc_heap_new w1 _
 have hR2 : (w1.alloc (.cells #[.int .i64 pa, .int .i64 pb, .int .i64 pf, .int .i64 ps, .slice ov (rdL L).length cv] 26)).heap[w.heap.size]? = some (.cells #[.int .i64 0, .int .i64 0, .int .i64 0, .int .i64 0, .slice none 0 0] 26 (0, 0)) := (Below.heap_alloc w1 _ _ (by omega)).trans hR1
 cases ok with
 | false =>
  have HB := hide hB2
  clear hB2 hP2 hR2 hR1 hB1
  go_wp2_with fail
  refine (want_no r _).mono ?_
  rintro e w2 ⟨rfl, rfl⟩
  exact ⟨rfl, .inl ⟨HO.out, rfl, HB.out⟩⟩
 | true =>
  have HB := hide hB2
  have HV2 := hide (World.ownsRow.alloc HV.out (.cells #[.int .i64 pa, .int .i64 pb, .int .i64 pf, .int .i64 ps, .slice ov (rdL L).length cv] 26))
  have y0 : (w1.alloc (.cells #[.int .i64 pa, .int .i64 pb, .int .i64 pf, .int .i64 ps, .slice ov (rdL L).length cv] 26)).cell? ⟨w1.heap.size, 0, none⟩ = some (.int .i64 pa) := block_cell hP2 0 _ rfl
  have y1 : (w1.alloc (.cells #[.int .i64 pa, .int .i64 pb, .int .i64 pf, .int .i64 ps, .slice ov (rdL L).length cv] 26)).cell? ⟨w1.heap.size, 1, none⟩ = some (.int .i64 pb) := block_cell hP2 1 _ rfl
  have y2 : (w1.alloc (.cells #[.int .i64 pa, .int .i64 pb, .int .i64 pf, .int .i64 ps, .slice ov (rdL L).length cv] 26)).cell? ⟨w1.heap.size, 2, none⟩ = some (.int .i64 pf) := block_cell hP2 2 _ rfl
  have y3 : (w1.alloc (.cells #[.int .i64 pa, .int .i64 pb, .int .i64 pf, .int .i64 ps, .slice ov (rdL L).length cv] 26)).cell? ⟨w1.heap.size, 3, none⟩ = some (.int .i64 ps) := block_cell hP2 3 _ rfl
  have y4 : (w1.alloc (.cells #[.int .i64 pa, .int .i64 pb, .int .i64 pf, .int .i64 ps, .slice ov (rdL L).length cv] 26)).cell? ⟨w1.heap.size, 4, none⟩ = some (.slice ov (rdL L).length cv) := block_cell hP2 4 _ rfl
  have e0 : (w1.alloc (.cells #[.int .i64 pa, .int .i64 pb, .int .i64 pf, .int .i64 ps, .slice ov (rdL L).length cv] 26)).cell? ⟨w.heap.size, 0, none⟩ = some (.int .i64 0) := block_cell hR2 0 _ rfl
  have q0 : (w1.alloc (.cells #[.int .i64 pa, .int .i64 pb, .int .i64 pf, .int .i64 ps, .slice ov (rdL L).length cv] 26)).frozen? ⟨w.heap.size, 0, none⟩ = false := block_frozen hR2 0
  have e1 : (w1.alloc (.cells #[.int .i64 pa, .int .i64 pb, .int .i64 pf, .int .i64 ps, .slice ov (rdL L).length cv] 26)).cell? ⟨w.heap.size, 1, none⟩ = some (.int .i64 0) := block_cell hR2 1 _ rfl
  have q1 : (w1.alloc (.cells #[.int .i64 pa, .int .i64 pb, .int .i64 pf, .int .i64 ps, .slice ov (rdL L).length cv] 26)).frozen? ⟨w.heap.size, 1, none⟩ = false := block_frozen hR2 1
  have e2 : (w1.alloc (.cells #[.int .i64 pa, .int .i64 pb, .int .i64 pf, .int .i64 ps, .slice ov (rdL L).length cv] 26)).cell? ⟨w.heap.size, 2, none⟩ = some (.int .i64 0) := block_cell hR2 2 _ rfl
  have q2 : (w1.alloc (.cells #[.int .i64 pa, .int .i64 pb, .int .i64 pf, .int .i64 ps, .slice ov (rdL L).length cv] 26)).frozen? ⟨w.heap.size, 2, none⟩ = false := block_frozen hR2 2
  have e3 : (w1.alloc (.cells #[.int .i64 pa, .int .i64 pb, .int .i64 pf, .int .i64 ps, .slice ov (rdL L).length cv] 26)).cell? ⟨w.heap.size, 3, none⟩ = some (.int .i64 0) := block_cell hR2 3 _ rfl
  have q3 : (w1.alloc (.cells #[.int .i64 pa, .int .i64 pb, .int .i64 pf, .int .i64 ps, .slice ov (rdL L).length cv] 26)).frozen? ⟨w.heap.size, 3, none⟩ = false := block_frozen hR2 3
  have e4 : (w1.alloc (.cells #[.int .i64 pa, .int .i64 pb, .int .i64 pf, .int .i64 ps, .slice ov (rdL L).length cv] 26)).cell? ⟨w.heap.size, 4, none⟩ = some (.slice none 0 0) := block_cell hR2 4 _ rfl
  have q4 : (w1.alloc (.cells #[.int .i64 pa, .int .i64 pb, .int .i64 pf, .int .i64 ps, .slice ov (rdL L).length cv] 26)).frozen? ⟨w.heap.size, 4, none⟩ = false := block_frozen hR2 4
  clear hB2 hP2 hR2 hR1 hB1
  go_wp2_with fail
  refine (want_yes r _).mono ?_
  rintro e w2 ⟨rfl, rfl⟩
  go_wp2
  refine bodyPost_ret (v := pkt pa pb pf ps (.slice ov (rdL L).length cv)) (by simp [results, Tryd.results70, go_sem, e0, e1, e2, e3, e4]) rfl ?_
  obtain ⟨ha, hb, hf, hs⟩ := HE.out
  refine .inr ⟨HO.out, _, by rw [ha, hb, hf, hs], ?_, ?_⟩
  ·refine own_mono (base := w0.heap.size) ?_ (Nat.le_of_lt hs0)
   repeat (refine ownsRow_setCell_below ?_ hs0 _)
   exact HV2.out
  ·exact HB.out.trans (put_at (put_at (put_at (put_at (put_at (Below.refl w.heap.size _) 0 _) 1 _) 2 _) 3 _) 4 _)

end Go.Proofs.YtoeoiljddcjphaaDoor

